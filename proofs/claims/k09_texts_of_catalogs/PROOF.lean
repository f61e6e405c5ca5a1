import PyProof.Rows.All
import Wide.All
import OpenK.AllK
import Wide.FinOn
import HandS.ForMost
import HandS.ForExc
import HandS.IsInst
import HandS.Walk
import HandS.Codes
import HandS.SortKw
import HandS.TryMany
import HandS.ExcInit
import HandS.ExcField
import KE.DatumOrd
import HandS.More
import HandS.CallSlots
import HandS.Defaults
import HandS.TupAny
import HandS.Deep
import HandS.Small
import HandS.Style
import HandS.Words
import HandS.Strs
import HandS.Star
import HandS.Flow
import HandS.SlotsOwn
import HandS.DeepEq
import HandS.DictEq
import HandS.DictComp
import HandS.ExcOwn
import KE.KCallOwn
import HandS.StrMore
import HandS.FStr
import KE.KRevSl
import HandS.Nested
import HandS.MakeKwOnly
import HandS.Conv
import HandS.NoneIn
import HandS.SortInts
import HandS.HeadHook4
import HandS.HeadWalk
import HandS.Head0
import HandS.Head1
import HandS.Head2
import HandS.HeadEnd
import KE.SortKeyHeap
import KE.IntTextLaws
import KE.KSortTupAny
import HandS.SortRule
import HandS.ExcInitHot
import HandS.SuiteRaise
import HandS.RaiseFrom
import PySem.Challenge.RW_hungparts_k09_texts_of_catalogs
set_option Elab.async false
set_option linter.all false
set_option maxRecDepth 100000
set_option maxHeartbeats 4000000

namespace My
open PySem L2
def top (i : Nat) : Stmt := PySem.Challenge.pw_hungparts_k09_texts_of_catalogs.main.body.getD i (.Pass ⟨0, 0, 0, 0⟩)
abbrev s_InvalidName_init : Stmt := inClass (top 3) 0
theorem sc_InvalidName_init : FnScope ["self", "value"] ["self", "value"] (defScope s_InvalidName_init) := ⟨rfl, rfl, rfl, by decide +kernel, rfl, by decide +kernel, by decide +kernel⟩
abbrev s_InvalidSpan_init : Stmt := inClass (top 4) 0
theorem sc_InvalidSpan_init : FnScope ["self", "value"] ["self", "value"] (defScope s_InvalidSpan_init) := ⟨rfl, rfl, rfl, by decide +kernel, rfl, by decide +kernel, by decide +kernel⟩
abbrev s_InvalidSpans_init : Stmt := inClass (top 5) 0
theorem sc_InvalidSpans_init : FnScope ["self", "value"] ["self", "value"] (defScope s_InvalidSpans_init) := ⟨rfl, rfl, rfl, by decide +kernel, rfl, by decide +kernel, by decide +kernel⟩
abbrev s_InvalidText_init : Stmt := inClass (top 6) 0
theorem sc_InvalidText_init : FnScope ["self", "value"] ["self", "value"] (defScope s_InvalidText_init) := ⟨rfl, rfl, rfl, by decide +kernel, rfl, by decide +kernel, by decide +kernel⟩
abbrev s_UnknownPart_init : Stmt := inClass (top 7) 0
theorem sc_UnknownPart_init : FnScope ["self", "name"] ["self", "name"] (defScope s_UnknownPart_init) := ⟨rfl, rfl, rfl, by decide +kernel, rfl, by decide +kernel, by decide +kernel⟩
abbrev s_NameTaken_init : Stmt := inClass (top 8) 0
theorem sc_NameTaken_init : FnScope ["self", "name"] ["self", "name"] (defScope s_NameTaken_init) := ⟨rfl, rfl, rfl, by decide +kernel, rfl, by decide +kernel, by decide +kernel⟩
abbrev s_Overlap_init : Stmt := inClass (top 9) 0
theorem sc_Overlap_init : FnScope ["self", "name"] ["self", "name"] (defScope s_Overlap_init) := ⟨rfl, rfl, rfl, by decide +kernel, rfl, by decide +kernel, by decide +kernel⟩
abbrev s_TooMany_init : Stmt := inClass (top 10) 0
theorem sc_TooMany_init : FnScope ["self", "bound"] ["self", "bound"] (defScope s_TooMany_init) := ⟨rfl, rfl, rfl, by decide +kernel, rfl, by decide +kernel, by decide +kernel⟩
abbrev s_is_integer : Stmt := top 14
theorem sc_is_integer : FnScope ["value"] ["value"] (defScope s_is_integer) := ⟨rfl, rfl, rfl, by decide +kernel, rfl, by decide +kernel, by decide +kernel⟩
abbrev s_is_name : Stmt := top 15
theorem sc_is_name : FnScope ["value", "sign"] ["value"] (defScope s_is_name) := ⟨rfl, rfl, rfl, by decide +kernel, rfl, by decide +kernel, by decide +kernel⟩
abbrev s_is_span : Stmt := top 16
theorem sc_is_span : FnScope ["value", "low", "high"] ["value"] (defScope s_is_span) := ⟨rfl, rfl, rfl, by decide +kernel, rfl, by decide +kernel, by decide +kernel⟩
abbrev s_is_limit : Stmt := top 17
theorem sc_is_limit : FnScope ["value"] ["value"] (defScope s_is_limit) := ⟨rfl, rfl, rfl, by decide +kernel, rfl, by decide +kernel, by decide +kernel⟩
abbrev s_require_name : Stmt := top 18
theorem sc_require_name : FnScope ["value"] ["value"] (defScope s_require_name) := ⟨rfl, rfl, rfl, by decide +kernel, rfl, by decide +kernel, by decide +kernel⟩
abbrev s_require_span : Stmt := top 19
theorem sc_require_span : FnScope ["value"] ["value"] (defScope s_require_span) := ⟨rfl, rfl, rfl, by decide +kernel, rfl, by decide +kernel, by decide +kernel⟩
abbrev s_meet : Stmt := top 20
theorem sc_meet : FnScope ["one", "other"] ["one", "other"] (defScope s_meet) := ⟨rfl, rfl, rfl, by decide +kernel, rfl, by decide +kernel, by decide +kernel⟩
abbrev s_common : Stmt := top 21
theorem sc_common : FnScope ["one", "other", "lows", "highs", "both", "low", "high"] ["one", "other"] (defScope s_common) := ⟨rfl, rfl, rfl, by decide +kernel, rfl, by decide +kernel, by decide +kernel⟩
abbrev s_span_text : Stmt := top 22
theorem sc_span_text : FnScope ["span", "low", "high"] ["span"] (defScope s_span_text) := ⟨rfl, rfl, rfl, by decide +kernel, rfl, by decide +kernel, by decide +kernel⟩
abbrev s_limit_text : Stmt := top 23
theorem sc_limit_text : FnScope ["limit"] ["limit"] (defScope s_limit_text) := ⟨rfl, rfl, rfl, by decide +kernel, rfl, by decide +kernel, by decide +kernel⟩
abbrev s_read_span : Stmt := top 24
theorem sc_read_span : FnScope ["text", "low", "dots", "high", "span"] ["text"] (defScope s_read_span) := ⟨rfl, rfl, rfl, by decide +kernel, rfl, by decide +kernel, by decide +kernel⟩
abbrev s_is_limit_text : Stmt := top 25
theorem sc_is_limit_text : FnScope ["text"] ["text"] (defScope s_is_limit_text) := ⟨rfl, rfl, rfl, by decide +kernel, rfl, by decide +kernel, by decide +kernel⟩
abbrev s_read_limit : Stmt := top 26
theorem sc_read_limit : FnScope ["text"] ["text"] (defScope s_read_limit) := ⟨rfl, rfl, rfl, by decide +kernel, rfl, by decide +kernel, by decide +kernel⟩
abbrev s_is_number_text : Stmt := top 27
theorem sc_is_number_text : FnScope ["text", "digits", "sign"] ["text"] (defScope s_is_number_text) := ⟨rfl, rfl, rfl, by decide +kernel, rfl, by decide +kernel, by decide +kernel⟩
abbrev s_Catalog_init : Stmt := inClass (top 30) 0
theorem sc_Catalog_init : FnScope ["self", "spans", "rest", "given", "names"] ["self", "spans", "rest"] (defScope s_Catalog_init) := ⟨rfl, rfl, rfl, by decide +kernel, rfl, by decide +kernel, by decide +kernel⟩
abbrev s_Catalog_eq : Stmt := inClass (top 30) 5
theorem sc_Catalog_eq : FnScope ["self", "other"] ["self", "other"] (defScope s_Catalog_eq) := ⟨rfl, rfl, rfl, by decide +kernel, rfl, by decide +kernel, by decide +kernel⟩
abbrev s_Catalog_str : Stmt := inClass (top 30) 12
theorem sc_Catalog_str : FnScope ["self", "texts", "rest", "name"] ["self"] (defScope s_Catalog_str) := ⟨rfl, rfl, rfl, by decide +kernel, rfl, by decide +kernel, by decide +kernel⟩
abbrev s_require_spans : Stmt := top 31
theorem sc_require_spans : FnScope ["spans", "name"] ["spans"] (defScope s_require_spans) := ⟨rfl, rfl, rfl, by decide +kernel, rfl, by decide +kernel, by decide +kernel⟩
abbrev s_require_rest : Stmt := top 32
theorem sc_require_rest : FnScope ["rest", "spans"] ["rest", "spans"] (defScope s_require_rest) := ⟨rfl, rfl, rfl, by decide +kernel, rfl, by decide +kernel, by decide +kernel⟩
abbrev s_ordered_spans : Stmt := top 33
theorem sc_ordered_spans : FnScope ["spans", "ordered", "name"] ["spans"] (defScope s_ordered_spans) := ⟨rfl, rfl, rfl, by decide +kernel, rfl, by decide +kernel, by decide +kernel⟩
abbrev s_first_meeting : Stmt := top 34
theorem sc_first_meeting : FnScope ["spans", "span", "name"] ["spans", "span"] (defScope s_first_meeting) := ⟨rfl, rfl, rfl, by decide +kernel, rfl, by decide +kernel, by decide +kernel⟩
abbrev s_all_stretches : Stmt := top 35
theorem sc_all_stretches : FnScope ["spans", "rest", "found", "end", "name", "low", "high"] ["spans", "rest"] (defScope s_all_stretches) := ⟨rfl, rfl, rfl, by decide +kernel, rfl, by decide +kernel, by decide +kernel⟩
abbrev s_low_place : Stmt := top 36
theorem sc_low_place : FnScope ["span", "low"] ["span"] (defScope s_low_place) := ⟨rfl, rfl, rfl, by decide +kernel, rfl, by decide +kernel, by decide +kernel⟩
abbrev s_read_catalog : Stmt := top 37
theorem sc_read_catalog : FnScope ["text", "catalog"] ["text"] (defScope s_read_catalog) := ⟨rfl, rfl, rfl, by decide +kernel, rfl, by decide +kernel, by decide +kernel⟩
abbrev s_parsed_catalog : Stmt := top 38
theorem sc_parsed_catalog : FnScope ["text", "spans", "rest", "item", "name", "_", "told"] ["text"] (defScope s_parsed_catalog) := ⟨rfl, rfl, rfl, by decide +kernel, rfl, by decide +kernel, by decide +kernel⟩
abbrev s_law_cell : Stmt := top 40
theorem sc_law_cell : FnScope ["_law_script", "_law_k"] ["_law_script", "_law_k"] (defScope s_law_cell) := ⟨rfl, rfl, rfl, by decide +kernel, rfl, by decide +kernel, by decide +kernel⟩
abbrev s_law_box : Stmt := top 41
theorem sc_law_box : FnScope ["_law_cell_here"] ["_law_cell_here"] (defScope s_law_box) := ⟨rfl, rfl, rfl, by decide +kernel, rfl, by decide +kernel, by decide +kernel⟩
abbrev s_law_take : Stmt := top 42
theorem sc_law_take : FnScope ["_law_box_here", "_law_many", "_law_digit", "_law_number_here"] ["_law_box_here", "_law_many"] (defScope s_law_take) := ⟨rfl, rfl, rfl, by decide +kernel, rfl, by decide +kernel, by decide +kernel⟩
abbrev s_law_mixed : Stmt := top 43
theorem sc_law_mixed : FnScope ["_law_box_here", "_law_some", "_law_left", "_law_k"] ["_law_box_here", "_law_some"] (defScope s_law_mixed) := ⟨rfl, rfl, rfl, by decide +kernel, rfl, by decide +kernel, by decide +kernel⟩
abbrev s_law_names : Stmt := top 44
theorem sc_law_names : FnScope ["_law_box_here", "_law_many", "_law_letters", "_law_words", "_law_stem", "_law_first", "_law_step", "_law_way", "_law_found", "_law_k", "_law_sign", "_law_name"] ["_law_box_here", "_law_many"] (defScope s_law_names) := ⟨rfl, rfl, rfl, by decide +kernel, rfl, by decide +kernel, by decide +kernel⟩
abbrev s_law_model : Stmt := top 45
theorem sc_law_model : FnScope ["_law_box_here", "_law_most", "_law_names_here", "_law_great", "_law_at", "_law_rows", "_law_k", "_law_low", "_law_spared"] ["_law_box_here", "_law_most"] (defScope s_law_model) := ⟨rfl, rfl, rfl, by decide +kernel, rfl, by decide +kernel, by decide +kernel⟩
abbrev s_law_catalog : Stmt := top 46
theorem sc_law_catalog : FnScope ["_law_box_here", "_law_model_here", "_law_row"] ["_law_box_here", "_law_model_here"] (defScope s_law_catalog) := ⟨rfl, rfl, rfl, by decide +kernel, rfl, by decide +kernel, by decide +kernel⟩
abbrev s_law_text : Stmt := top 47
theorem sc_law_text : FnScope ["_law_model_here", "_law_rows", "_law_words", "_law_row", "_law_limit", "_law_name", "_law_span_here"] ["_law_model_here"] (defScope s_law_text) := ⟨rfl, rfl, rfl, by decide +kernel, rfl, by decide +kernel, by decide +kernel⟩
abbrev s_law_is_name : Stmt := top 48
theorem sc_law_is_name : FnScope ["_law_word", "_law_sign"] ["_law_word"] (defScope s_law_is_name) := ⟨rfl, rfl, rfl, by decide +kernel, rfl, by decide +kernel, by decide +kernel⟩
abbrev s_law_number : Stmt := top 49
theorem sc_law_number : FnScope ["_law_word", "_law_digits", "_law_sign"] ["_law_word"] (defScope s_law_number) := ⟨rfl, rfl, rfl, by decide +kernel, rfl, by decide +kernel, by decide +kernel⟩
abbrev s_law_span : Stmt := top 50
theorem sc_law_span : FnScope ["_law_word", "_law_at", "_law_words", "_law_limits", "_law_part", "_law_k"] ["_law_word"] (defScope s_law_span) := ⟨rfl, rfl, rfl, by decide +kernel, rfl, by decide +kernel, by decide +kernel⟩
abbrev s_law_meet : Stmt := top 51
theorem sc_law_meet : FnScope ["_law_one", "_law_other", "_law_low", "_law_high"] ["_law_one", "_law_other"] (defScope s_law_meet) := ⟨rfl, rfl, rfl, by decide +kernel, rfl, by decide +kernel, by decide +kernel⟩
abbrev s_law_read : Stmt := top 52
theorem sc_law_read : FnScope ["_law_text_here", "_law_rows", "_law_spared", "_law_part", "_law_words", "_law_span_here", "_law_row"] ["_law_text_here"] (defScope s_law_read) := ⟨rfl, rfl, rfl, by decide +kernel, rfl, by decide +kernel, by decide +kernel⟩
abbrev s_law_told : Stmt := top 53
theorem sc_law_told : FnScope ["_law_value", "e"] ["_law_value"] (defScope s_law_told) := ⟨rfl, rfl, rfl, by decide +kernel, rfl, by decide +kernel, by decide +kernel⟩
abbrev s_law_bent : Stmt := top 54
theorem sc_law_bent : FnScope ["_law_box_here", "_law_text_here", "_law_at", "_law_more", "_law_head", "_law_tail"] ["_law_box_here", "_law_text_here"] (defScope s_law_bent) := ⟨rfl, rfl, rfl, by decide +kernel, rfl, by decide +kernel, by decide +kernel⟩
abbrev s_law : Stmt := top 55
theorem sc_law : FnScope ["_law_script", "_law_k", "_law_box_here", "_law_model_here", "_law_words", "_law_plain1", "_law_catalog_here", "_law_text_here", "_law_turn", "_law_bent_here", "_law_due", "_law_told_here", "_law_made", "_law_odd", "_law_row"] ["_law_script"] (defScope s_law) := ⟨rfl, rfl, rfl, by decide +kernel, rfl, by decide +kernel, by decide +kernel⟩

/-! ### further rules -/
section
variable {X : Cx}
theorem holdAll_ints {h : Heap} : ∀ {us : List Value} {ns : List Int}, Vals (ns.map V.int) us → PySem.W.HoldAll (α := Int) h us ns
  | _, [], .nil => ⟨_, .nil⟩
  | _, n :: r, .cons ⟨t, e⟩ k => by
    subst e
    obtain ⟨as, q⟩ := holdAll_ints (h := h) k
    exact ⟨_, .cons (.int n t) q⟩
theorem holds_int {h : Heap} {v : Value} {n : Int} (H : PySem.W.Holds (α := Int) h v n) : ∃ t, v = .int n t := by
  obtain ⟨as, r⟩ := H
  cases r
  exact ⟨_, rfl⟩
theorem maxOf_ints : ∀ (ys : List Int) (y : Int), PySem.W.maxOf y ys ∈ y :: ys ∧ ∀ n ∈ y :: ys, n ≤ PySem.W.maxOf y ys := by
  intro ys
  induction ys with
  | nil =>
    intro y
    exact ⟨List.mem_cons_self, fun n hn => by cases List.mem_singleton.mp hn; exact Int.le_refl _⟩
  | cons z r ih =>
    intro y
    have e : PySem.W.maxOf y (z :: r) = PySem.W.maxOf (if y < z then z else y) r := by
      show List.foldl _ (if decide (y < z) = true then z else y) r = _
      simp only [decide_eq_true_eq]
      rfl
    rw [e]
    obtain ⟨h1, h2⟩ := ih (if y < z then z else y)
    have hy := h2 _ List.mem_cons_self
    have hyz : y ≤ (if y < z then z else y) ∧ z ≤ (if y < z then z else y) := by
      split <;> omega
    refine ⟨?_, fun n hn => ?_⟩
    · rcases List.mem_cons.mp h1 with q | q
      · rw [q]
        split <;> simp
      · exact List.mem_cons_of_mem _ (List.mem_cons_of_mem _ q)
    · rcases List.mem_cons.mp hn with rfl | hn
      · omega
      · rcases List.mem_cons.mp hn with rfl | hn
        · omega
        · exact h2 n (List.mem_cons_of_mem _ hn)
theorem minOf_ints : ∀ (ys : List Int) (y : Int), PySem.W.minOf y ys ∈ y :: ys ∧ ∀ n ∈ y :: ys, PySem.W.minOf y ys ≤ n := by
  intro ys
  induction ys with
  | nil =>
    intro y
    exact ⟨List.mem_cons_self, fun n hn => by cases List.mem_singleton.mp hn; exact Int.le_refl _⟩
  | cons z r ih =>
    intro y
    have e : PySem.W.minOf y (z :: r) = PySem.W.minOf (if z < y then z else y) r := by
      show List.foldl _ (if decide (z < y) = true then z else y) r = _
      simp only [decide_eq_true_eq]
      rfl
    rw [e]
    obtain ⟨h1, h2⟩ := ih (if z < y then z else y)
    have hy := h2 _ List.mem_cons_self
    have hyz : (if z < y then z else y) ≤ y ∧ (if z < y then z else y) ≤ z := by
      split <;> omega
    refine ⟨?_, fun n hn => ?_⟩
    · rcases List.mem_cons.mp h1 with q | q
      · rw [q]
        split <;> simp
      · exact List.mem_cons_of_mem _ (List.mem_cons_of_mem _ q)
    · rcases List.mem_cons.mp hn with rfl | hn
      · omega
      · rcases List.mem_cons.mp hn with rfl | hn
        · omega
        · exact h2 n (List.mem_cons_of_mem _ hn)
/-- max(xs, default=d), xs a list of whole numbers -/
def rMaxD (K : PySem.W.Frag) : List V → List V → Hp → VK → Prop := fun xs zs H Q => ∃ (a : Addr) (ns : List Int) (d : V), xs = [.ref a] ∧ zs = [d] ∧ SqL K H a (ns.map V.int) ∧ (ns = [] → Q d H) ∧ ∀ m, m ∈ ns → (∀ n ∈ ns, n ≤ m) → Q (.int m) H
def rMinD (K : PySem.W.Frag) : List V → List V → Hp → VK → Prop := fun xs zs H Q => ∃ (a : Addr) (ns : List Int) (d : V), xs = [.ref a] ∧ zs = [d] ∧ SqL K H a (ns.map V.int) ∧ (ns = [] → Q d H) ∧ ∀ m, m ∈ ns → (∀ n ∈ ns, m ≤ n) → Q (.int m) H
theorem cr_maxD (hc : X.calm = true) (hu : X.A.units + 64 < cLine) : CallRK X (.builtin "max") ["default"] (rMaxD X.K) := by
  intro pins s σ H xs zs us ws Q I rx rz h
  obtain ⟨a, ns, d, rfl, rfl, hS, h0, h1⟩ := h
  obtain ⟨its, rv, pl, _⟩ := I.list hS
  obtain ⟨u, rfl, ru⟩ := vals1 rx
  obtain ⟨dv, rfl, rd⟩ := vals1 rz
  cases ru
  refine PySem.W.max_list_datum_default (α := Int) (xs := ns) (I.ok.hd hc) pl.isList (holdAll_ints (by simpa using rv)) (by show X.A.units + 1 + 0 < cLine; omega) (fun e h' tk k => ⟨d, H, I.kept k, rd, h0 e⟩) fun y ys i v h' tk e hi hh k => ?_
  subst e
  obtain ⟨t, rfl⟩ := holds_int hh
  have m := maxOf_ints ys y
  exact ⟨.int _, H, I.kept k, ⟨t, rfl⟩, h1 _ m.1 m.2⟩
theorem cr_minD (hc : X.calm = true) (hu : X.A.units + 64 < cLine) : CallRK X (.builtin "min") ["default"] (rMinD X.K) := by
  intro pins s σ H xs zs us ws Q I rx rz h
  obtain ⟨a, ns, d, rfl, rfl, hS, h0, h1⟩ := h
  obtain ⟨its, rv, pl, _⟩ := I.list hS
  obtain ⟨u, rfl, ru⟩ := vals1 rx
  obtain ⟨dv, rfl, rd⟩ := vals1 rz
  cases ru
  refine PySem.W.min_list_datum_default (α := Int) (xs := ns) (I.ok.hd hc) pl.isList (holdAll_ints (by simpa using rv)) (by show X.A.units + 1 + 0 < cLine; omega) (fun e h' tk k => ⟨d, H, I.kept k, rd, h0 e⟩) fun y ys i v h' tk e hi hh k => ?_
  subst e
  obtain ⟨t, rfl⟩ := holds_int hh
  have m := minOf_ints ys y
  exact ⟨.int _, H, I.kept k, ⟨t, rfl⟩, h1 _ m.1 m.2⟩
/-- what is surely the same: a flat value, or one object -/
def sureV (v : V) : Bool := flatB v || (match v with | .ref _ => true | _ => false)
theorem sure_eq {A : Around} {s : Shared} {v : V} {u u' : Value} (r : RelV v u) (r' : RelV v u') (f : sureV v = true) : SeqAt.EqAt A s u u' true := by
  cases v with
  | ref a =>
    cases (show u = Value.ref a from r)
    cases (show u' = Value.ref a from r')
    exact SeqAt.EqAt.same _
  | ty n => cases f
  | flt b => cases f
  | _ => exact eqAt_same r r' rfl
/-- two lists of the same items: they are not unlike -/
def rNeS (K : PySem.W.Frag) : R2 := fun x y H Q => ∃ (a b : Addr) (xs : List V), x = .ref a ∧ y = .ref b ∧ SqL K H a xs ∧ SqL K H b xs ∧ xs.all sureV = true ∧ Q (.bl false) H
theorem op_neS (hu : X.A.units + 64 < cLine) : OpR X (compareOp .NotEq) (rNeS X.K) := by
  intro pins s σ H x y v u Q I rx ry h
  obtain ⟨a, b, xs, rfl, rfl, ha, hb, hf, q⟩ := h
  cases (show v = Value.ref a from rx)
  cases (show u = Value.ref b from ry)
  obtain ⟨us, r1, p1, _⟩ := I.list ha
  obtain ⟨ws, r2, p2, _⟩ := I.list hb
  have hl : us.toArray.size = ws.toArray.size := by
    rw [List.size_toArray, List.size_toArray, ← r1.length, ← r2.length]
  refine SeqAt.RcNeAt.lists (e := fun _ => true) p1.isList p2.isList hl (by omega) (fun j h1 h2 => ?_) X.prog X.w _ _ ?_
  · have hj : j < xs.length := by
      rw [r1.length]
      simpa using h1
    obtain ⟨u1, e1, q1⟩ := r1.get (List.getElem?_eq_getElem hj)
    obtain ⟨u2, e2, q2⟩ := r2.get (List.getElem?_eq_getElem hj)
    have k1 : us.toArray[j] = u1 := by
      have := List.getElem?_eq_some_iff.mp e1
      simpa using this.2
    have k2 : ws.toArray[j] = u2 := by
      have := List.getElem?_eq_some_iff.mp e2
      simpa using this.2
    rw [k1, k2]
    exact sure_eq q1 q2 (List.all_eq_true.mp hf _ (List.getElem_mem hj))
  · have ea : ((List.range us.toArray.size).all fun _ => true) = true := List.all_eq_true.mpr fun _ _ => rfl
    rw [ea]
    exact ⟨.bl false, H, I, rfl, q⟩
end
/-- list(..) within a comprehension -/
def rListOfN (K : PySem.W.Frag) : List V → Hp → VK → Prop := fun xs H Q => ∃ p ys, xs = [V.ref p] ∧ (SqL K H p ys ∨ SqT K H p ys) ∧ ∀ l, H l = none → Q (V.ref l) (upd H l (.lst ys))
/-! ### try with several clauses, each of which names the exception: slot i is the name's -/
/-- what the clauses wish of an exception of the body, one after the other -/
def wManyAs (K : PySem.W.Frag) (i : Nat) (Wout : WX) (D : Ends) : List (Value × (Addr → Value → Option Addr → TS)) → WX
  | [] => Wout
  | (c, ts) :: r => wAs K c i ts (wManyAs K i Wout D r) D
inductive HdsAs (X : Cx) (n : Str) : List ExceptHandler → List (Value × (Addr → Value → Option Addr → TS)) → Prop
  | nil : HdsAs X n [] []
  | cons {x : Str} {c : Value} {ts : Addr → Value → Option Addr → TS} {st : Stmt} {sts : List Stmt} {p1 p2 : Pos} {hs : List ExceptHandler} {l : List (Value × (Addr → Value → Option Addr → TS))} (hc : Names X x c)
      (hb : ∀ (a : Addr) (o : Obj) (cls : Value) (d : Option Addr) (pn : List (Addr × Obj)), Zc cls d o → (∃ vs, o.data = .fields vs) → PSs (X.suite a ((a, o) :: pn)) (st :: sts) (ts a cls d)) (r : HdsAs X n hs l) :
      HdsAs X n (.ExceptHandler (some (.Name x p1)) (some n) (st :: sts) p2 :: hs) ((c, ts) :: l)
section
variable {X : Cx} {n : Str} {i : Nat} {pos : Pos} {tb : WX → TS} {Wout : WX} {body : List Stmt}
theorem ps_try_manyAs {g₀ : ExceptHandler} {gs : List ExceptHandler} {l : List (Value × (Addr → Value → Option Addr → TS))} (stk : X.stack = X.env :: X.outer) (frm : X.env.frame = some X.env.locals) (nodup : X.N.Nodup) (at_i : X.N[i]? = some n) (lcl : X.env.kindOf n = some .local)
    (out : Takes X Wout) (hbody : ∀ (W : WX) (pn : List (Addr × Obj)) (xe : Value → Shared → Prop), Takes (X.tr pn xe) W → PassesOwn (model X.prog X.w) X.A X.env xe → PSs (X.tr pn xe) body (tb W)) (hands : HdsAs X n (g₀ :: gs) l) :
    PS X (.Try body (g₀ :: gs) [] [] pos) (fun D σ H => tb (wManyAs X.K i Wout D l) D σ H) := by
  constructor
  intro pins s σ H D I hw
  have fr2 : X.A.frames = some (X.env :: X.outer) := by
    rw [I.ok.frames, stk]
  apply wpAny_Try_except
  let xe' : Value → Shared → Prop := fun e s₁ => wpAny (model X.prog X.w) X.A (noteFrame e X.env)
    (fun _ s₂ => wpAny (model X.prog X.w) X.A (setFlight e none) (fun _ s₃ => wpAny (model X.prog X.w) X.A (handleBy e X.env (g₀ :: gs)) (SP X pins D) X.xe s₃) X.xe s₂) X.xe s₁
  have caught : Takes (X.tr (X.pn ++ pins) xe') (wManyAs X.K i Wout D l) := by
    rintro u s' ⟨a, B, sI, pins', σ', H', cls, d, rfl, J1, nb, up, sky, na, os, ag, wish⟩
    have J := J1.ofTry I.ok
    have sky2 : Sky B (X.env :: X.outer) a (Zc cls d) X.env.locals s'.heap := by
      rw [← stk]
      exact sky
    show wpAny _ X.A (noteFrame (.ref a) X.env) _ _ _
    apply Sky.land Zc.steady fr2 frm sky2
    intro hA fly upA
    have JA : Inv X pins σ' H' { s' with heap := hA } := J.landed nb fly.1 (up.trans upA) os ag
    obtain ⟨oA, wA, getA, zA, dataA⟩ := fly.there
    have off : a ∉ frs (X.env :: X.outer) := by
      intro hm
      obtain ⟨_, o2, get2, nodata⟩ := fly.2.2.1.mem hm
      have same := get2.symm.trans getA
      cases same
      exact nodata _ dataA
    have offL : a ≠ X.env.locals := by
      intro z
      refine off (List.mem_filterMap.mpr ⟨X.env, List.mem_cons_self, ?_⟩)
      rw [frm, z]
    have offF : a ∉ X.fs := by
      intro hm
      obtain ⟨e, he, q⟩ := List.mem_filterMap.mp hm
      exact off (List.mem_filterMap.mpr ⟨e, List.mem_cons_of_mem _ he, q⟩)
    have SA := JA.suite getA dataA na offL offF
    suffices go : ∀ {hs : List ExceptHandler} {l' : List (Value × (Addr → Value → Option Addr → TS))}, HdsAs X n hs l' → wManyAs X.K i Wout D l' cls d σ' H' →
        wpAny (model X.prog X.w) X.A (handleBy (.ref a) X.env hs) (SP X pins D) X.xe { s' with heap := hA } from go hands wish
    intro hs l' hk
    induction hk with
    | nil =>
      intro wi
      apply wpAny_handleBy_nil
      obtain ⟨_, _, _, o5, w5, T5, oT5, t5, g5, z5, d5, e5, r5⟩ := id fly
      unfold PySem.passOn
      apply wpAny_bind
      refine wpAny_field g5 d5 e5 ?_
      rw [if_neg (show ¬ ((Value.ref T5 == Value.none) = true) by simp)]
      have leave : wpAny (model X.prog X.w) X.A (setFlight (.ref a) X.env.frame) (fun _ s4 => wpAny (model X.prog X.w) X.A (throw (.ref a) : Sem Flow) (SP X pins D) X.xe s4) X.xe { s' with heap := hA } := by
        rw [frm]
        refine HandSPX.setFlight_upZ fly fun hB heldB upB => ?_
        apply wpAny_throw
        exact out _ _ ⟨a, B, sI, pins, σ', H', cls, d, rfl, J, nb, (up.trans upA).trans upB, .inr (.inr (by rw [stk]; exact heldB)), na, os, ag, wi⟩
      first
        | exact wpAny_bind leave
        | exact wpAny_bind (wpAny_pure (wpAny_bind leave))
    | @cons x c ts st sts p1 p2 hs2 l2 hc hb r ih =>
      rintro ⟨b, isb, yes, no⟩
      refine wpAny_handleBy_cons (codeAny_handlers_test ?_) (by intro q; cases q)
      have lookT : PySem.W.Looks (model X.prog X.w) hA (typeOf (.ref a)) cls := by
        intro A' Q E s2 k q
        exact wpAny_typeOf_ref (k _ _ getA) (by rw [zA.1]; exact q)
      have lookM := PySem.W.exm_one (M := model X.prog X.w) JA.kIn lookT isb
      have named : ∀ {Q E : Value → Shared → Prop}, Q c { s' with heap := hA } → wpAny (model X.prog X.w) (X.A.mark (some (.ref a))) (eval (.Name x p1) X.env) Q E { s' with heap := hA } := by
        intro Q E q
        obtain ⟨gl, nd, hm⟩ := hc
        rcases hm with hm | ⟨hm, bv, nn⟩
        · exact ld_glob (X := X.suite a ((a, oA) :: (X.pn ++ pins))) SA gl hm q nd
        · exact ld_blt (X := X.suite a ((a, oA) :: (X.pn ++ pins))) SA gl hm bv q nn nd
      apply named
      apply lookM.here
      cases b with
      | false =>
        show wpAny _ X.A (handleBy (.ref a) X.env hs2) _ _ _
        exact ih (no rfl)
      | true =>
        apply codeAny_handlers_suite_as
        refine HandSPX.lands_againZ fly fun hC flyC upC => ?_
        have JC : Inv X pins σ' H' { s' with heap := hC } := J.landed nb flyC.1 ((up.trans upA).trans upC) os ag
        obtain ⟨oC, wC, getC, zC, dataC⟩ := flyC.there
        have SC := JC.suite getC dataC na offL offF
        refine store_ok (X := X.suite a ((a, oC) :: (X.pn ++ pins))) (v := .ref a) SC nodup at_i (.inl lcl) rfl (fun s5 S5 => ?_) (.inr lcl)
        refine wpAny_mono ((hb a oC cls d (X.pn ++ pins) zC ⟨_, dataC⟩).run [] s5 _ H' _ S5 (yes rfl a na)) (fun fl s6 hq => ?_) (fun _ _ z => z.elim)
        have fin : ∀ {σ6 : L2.St} {H6 : Hp} {Q : Shared → Prop}, Inv (X.suite a ((a, oC) :: (X.pn ++ pins))) [] σ6 H6 s6 → (∀ s7, Inv X pins (σ6.set i none) H6 s7 → Q s7) →
            wpAny (model X.prog X.w) X.A (do bindName X.env n .none; unbindBehindTheSuite X.env n p2) (fun _ s7 => Q s7) X.xe s6 := by
          intro σ6 H6 Q S6 q
          exact gone_ok (S6.unsuite I.ok) nodup at_i lcl q
        cases fl with
        | ret u =>
          obtain ⟨v6, σ6, H6, S6, r6, q6⟩ := hq
          exact fin S6 fun s7 J7 => ⟨_, _, _, J7, r6, q6⟩
        | next =>
          obtain ⟨σ6, H6, S6, q6⟩ := hq
          exact fin S6 fun s7 J7 => ⟨_, _, J7, q6⟩
        | brk =>
          obtain ⟨σ6, H6, S6, q6⟩ := hq
          exact fin S6 fun s7 J7 => ⟨_, _, J7, q6⟩
        | cont =>
          obtain ⟨σ6, H6, S6, q6⟩ := hq
          exact fin S6 fun s7 J7 => ⟨_, _, J7, q6⟩
  refine wpAny_mono ((hbody _ (X.pn ++ pins) xe' caught PassesOwn.looking).run [] s σ H D (I.toTry _) hw) (fun fl s1 hq => ?_) (fun _ _ he => he)
  cases fl with
  | ret u =>
    obtain ⟨v, σ', H', J', r', q⟩ := hq
    exact ⟨v, σ', H', J'.ofTry I.ok, r', q⟩
  | next =>
    obtain ⟨σ', H', J', q⟩ := hq
    exact wpAny_execs_nil ⟨σ', H', J'.ofTry I.ok, q⟩
  | brk =>
    obtain ⟨σ', H', J', q⟩ := hq
    exact ⟨σ', H', J'.ofTry I.ok, q⟩
  | cont =>
    obtain ⟨σ', H', J', q⟩ := hq
    exact ⟨σ', H', J'.ofTry I.ok, q⟩
end
/-! ### a def called with keywords (and perhaps positional values ahead), what leaves it wished for at the caller's slots -/
/-- what such a call binds, the parameters' order by a permutation of the values -/
structure KwB (K : PySem.W.Frag) (fd : FuncData) (ps : List Str) (n : Nat) (ks : List Str) (g : {α : Type} → List α → List α → List α) : Prop where
  to : ∀ (us ws : List Value), us.length = n → ws.length = ks.length → bindArgs fd ⟨us, ks.zip ws⟩ = pure (ps.zip (g us ws))
  rel : ∀ {vs : List V} {us : List Value} {zs : List V} {ws : List Value}, vs.length = n → zs.length = ks.length → Vals vs us → Vals zs ws → Vals (g vs zs) (g us ws)
def tCallKw (n m : Nat) (sp : Sp) (g : List V → List V → List V) (E : L2.St → XK) (t tk : TA) : TE := fun σ H Q => t σ H fun vs H1 => tk σ H1 fun zs H2 => vs.length = n ∧ zs.length = m ∧ sp (g vs zs) H2 Q (E σ)
section
variable {X : Cx} {CX : CXT} {k n : Nat} {f : Addr} {fd : FuncData} {ps ks : List Str} {sp : Sp} {E : L2.St → XK} {x : Str} {p pos : Pos} {e : Expr} {es : List Expr} {kws : List Keyword} {t tk : TA} {g : {α : Type} → List α → List α → List α}
theorem run_kw {pins : List (Addr × Obj)} {σ : L2.St} {H : Hp} {s : Shared} {Q : VK} {us ws : List Value} {vs zs : List V} (F : FnOk X.prog X.w X.K X.mg X.base CX k f fd ps sp) (room : Room k X.A) (bnd : KwB X.K fd ps n ks g) (px : PassesAt CX X σ (E σ))
    (I : Inv X pins σ H s) (rv : Vals vs us) (rz : Vals zs ws) (l1 : vs.length = n) (l2 : zs.length = ks.length) (hsp : sp (g vs zs) H Q (E σ)) : wpAny (model X.prog X.w) X.A (call (.ref f) us (ks.zip ws)) (EP X pins σ Q) X.xe s := by
  apply wpAny_call
  refine codeAny_mono (F.run X.A X.stack s H ⟨us, ks.zip ws⟩ (g us ws) (g vs zs) Q (E σ) room I.env0 (.of_eq (bnd.to us ws (rv.length.symm.trans l1) (rz.length.symm.trans l2))) (bnd.rel l1 l2 rv rz) hsp) fun r s' got => ?_
  match r, got with
  | .error er, got => exact px pins H s er s' I got
  | .ok (.ret u), got => exact I.after got
  | .ok .next, got => exact got.elim
  | .ok .brk, got => exact got.elim
  | .ok .cont, got => exact got.elim
/-- f(k = v, ..) -/
theorem pe_kw0 (F : FnOk X.prog X.w X.K X.mg X.base CX k f fd ps sp) (room : Room k X.A) (gl : Gl X x) (m : X.mg x = some (.ref f)) (kp : PySem.W.keepIn X.K (.ref f) = true) (bnd : KwB X.K fd ps 0 ks g) (px : ∀ σ, PassesAt CX X σ (E σ)) (kw : PK X kws tk)
    (h1 : (backToKw pos (keywordEach kws X.env)).all (·.1.isSome) = true := by rfl) (h2 : (backToKw pos (keywordEach kws X.env)).filterMap (·.1) = ks := by rfl) (h3 : (x == ("__debug__" : Str)) = false := by decide)
    (h4 : ((backTo pos (starEach [] X.env)).any (·.1) || (backToKw pos (keywordEach kws X.env)).any (·.1.isNone)) = false := by rfl) : PE X (.Call (.Name x p) [] kws pos) (tCallKw 0 ks.length sp g E tNil tk) := by
  constructor
  intro pins s σ H Q I h
  apply wpAny_Call_Name_kw
  refine ld_glob I gl m ?_ h3
  refine PySem.W.callWith_KW0 (h₀ := X.base) I.ok.mod.kin kp h1 ?_ h4
  refine thn (kw.run pos pins s σ H _ I h) fun ws s2 got => ?_
  obtain ⟨zs, H2, I2, rz, l1, l2, q2⟩ := got
  rw [h2]
  exact ⟨I2.kIn, run_kw (us := []) (vs := []) F room bnd (px σ) I2 .nil rz rfl l2 q2⟩
/-- f(e, .., k = v, ..) -/
theorem pe_kw (F : FnOk X.prog X.w X.K X.mg X.base CX k f fd ps sp) (room : Room k X.A) (gl : Gl X x) (m : X.mg x = some (.ref f)) (kp : PySem.W.keepIn X.K (.ref f) = true) (bnd : KwB X.K fd ps n ks g) (px : ∀ σ, PassesAt CX X σ (E σ)) (ha : PA X (e :: es) t) (kw : PK X kws tk)
    (h1 : (backToKw pos (keywordEach kws X.env)).all (·.1.isSome) = true := by rfl) (h2 : (backToKw pos (keywordEach kws X.env)).filterMap (·.1) = ks := by rfl) (h3 : (x == ("__debug__" : Str)) = false := by decide)
    (h5 : starEach (e :: es) X.env = (false, eval e X.env) :: starEach es X.env := by rfl) (h4 : ((backTo pos (starEach (e :: es) X.env)).any (·.1) || (backToKw pos (keywordEach kws X.env)).any (·.1.isNone)) = false := by rfl) :
    PE X (.Call (.Name x p) (e :: es) kws pos) (tCallKw n ks.length sp g E t tk) := by
  constructor
  intro pins s σ H Q I h
  apply wpAny_Call_Name_kw
  refine ld_glob I gl m ?_ h3
  refine PySem.W.callWith_KW (h₀ := X.base) I.ok.mod.kin kp h1 (thn (ha.run pos pins s σ H _ I h) fun us s1 got => ?_) h4 h5
  obtain ⟨vs, H1, I1, rv, q⟩ := got
  refine thn (kw.run pos pins s1 σ H1 _ I1 q) fun ws s2 got => ?_
  obtain ⟨zs, H2, I2, rz, l1, l2, q2⟩ := got
  rw [h2]
  exact ⟨I2.kIn, run_kw F room bnd (px σ) I2 rv rz l1 l2 q2⟩
theorem passAt_of {X : Cx} {CX : CXT} {E : XK} (h : Passes CX X E) (σ : L2.St) : PassesAt CX X σ E := fun pins H s e s' I c => h pins σ H s e s' I c
/-- in a def that lets exceptions out: what a callee lets out goes on -/
theorem passC {X : Cx} {E : XK} (tk : Takes X (fun cls d _ H => E cls d H)) : Passes (L2.CX X.prog X.w) X E := passes_call tk fun _ _ _ _ h => h
end
/-- the drawing box at p: three ints, drawn n times at most -/
def BoxAt (H : Hp) (p : Addr) (n : Nat) : Prop := ∃ d s c : Int, H p = some (.lst [.int d, .int s, .int c]) ∧ 0 ≤ d ∧ 0 ≤ s ∧ s < 2147483629 ∧ 0 ≤ c ∧ c ≤ n
/-- H0: all that is known beside the box -/
structure BoxIn (H0 H : Hp) (p : Addr) (n : Nat) : Prop where
  same : Same H0 H
  free : H0 p = none
  box : BoxAt H p n
theorem BoxAt.mono {H : Hp} {p : Addr} {n m : Nat} (b : BoxAt H p n) (h : n ≤ m) : BoxAt H p m := by
  obtain ⟨d, s, c, h1, h2, h3, h4, h5, h6⟩ := b
  exact ⟨d, s, c, h1, h2, h3, h4, h5, by omega⟩
theorem BoxIn.mono {H0 H : Hp} {p : Addr} {n m : Nat} (b : BoxIn H0 H p n) (h : n ≤ m) : BoxIn H0 H p m := ⟨b.same, b.free, b.box.mono h⟩
/-- a pure step behind it -/
theorem BoxIn.keep {H0 H H' : Hp} {p : Addr} {n : Nat} (b : BoxIn H0 H p n) (s : Same H H') : BoxIn H0 H' p n := by
  obtain ⟨d, s', c, h1, h⟩ := b.box
  exact ⟨b.same.trans s, b.free, d, s', c, s _ _ h1, h⟩
/-- a new object becomes known -/
theorem BoxIn.new {H0 H : Hp} {p q : Addr} {n : Nat} {o : HO} (b : BoxIn H0 H p n) (hq : H q = none) : BoxIn (upd H0 q o) (upd H q o) p n ∧ Same H0 (upd H0 q o) := by
  obtain ⟨d, s', c, h1, h⟩ := b.box
  have npq : p ≠ q := ne_of_none h1 hq
  refine ⟨⟨fun x u e => ?_, by rw [upd_ne npq]; exact b.free, d, s', c, by rw [upd_ne npq]; exact h1, h⟩, fun x u e => ?_⟩
  · by_cases hx : x = q
    · subst hx
      rw [upd_same] at e ⊢
      exact e
    · rw [upd_ne hx] at e ⊢
      exact b.same _ _ e
  · rw [upd_ne (ne_of_none e (b.same.free hq))]
    exact e
/-- all that is tracked now, the box aside, is known -/
def but (H : Hp) (p : Addr) : Hp := fun q => if q = p then none else H q
theorem but_same {H : Hp} {p : Addr} : but H p p = none := by unfold but; rw [if_pos rfl]
theorem but_ne {H : Hp} {p q : Addr} (h : q ≠ p) : but H p q = H q := by unfold but; rw [if_neg h]
theorem BoxIn.all {H0 H : Hp} {p : Addr} {n : Nat} (b : BoxIn H0 H p n) : BoxIn (but H p) H p n ∧ Same H0 (but H p) := by
  refine ⟨⟨fun x u e => ?_, but_same, b.box⟩, fun x u e => ?_⟩
  · by_cases hx : x = p
    · subst hx
      rw [but_same] at e
      cases e
    · rw [but_ne hx] at e
      exact e
  · have hx : x ≠ p := fun q => by
      rw [q, b.free] at e
      cases e
    rw [but_ne hx]
    exact b.same _ _ e

def sp_law_cell (K : PySem.W.Frag) : Sp := fun vs H Q _ => ∃ (a : Addr) (ns : List Int) (k : Int), vs = [.ref a, .int k] ∧ SqL K H a (ns.map V.int) ∧ 0 ≤ k ∧ ∀ z, Q (.int z) H
def sp_law_box : Sp := fun vs H Q _ => ∃ z : Int, vs = [.int z] ∧ ∀ p o, H p = none → BoxAt (upd H p o) p 0 → Q (.ref p) (upd H p o)
def sp_law_take : Sp := fun vs H Q _ => ∃ (H0 : Hp) (p : Addr) (n : Nat) (m : Int), vs = [.ref p, .int m] ∧ BoxIn H0 H p n ∧ n < 1000000 ∧ 0 < m ∧ m < 1000000 ∧
  ∀ (z : Int) (H' : Hp), 0 ≤ z → z < m → BoxIn H0 H' p (n + 1) → Q (.int z) H'
/-- what the law's promise is: a list of at most 63 ints is handed in, True comes out -/
def sp_law (K : PySem.W.Frag) : Sp := fun vs H Q _ => ∃ (a : Addr) (ns : List Int), vs = [.ref a] ∧ SqL K H a (ns.map V.int) ∧ ns.length ≤ 63 ∧ ∀ H', Q (.bl true) H'
/-! ### values as data -/
theorem same_t {K : PySem.W.Frag} {H H' : Hp} {a : Addr} {xs : List V} (e : Same H H') (h : SqT K H a xs) : SqT K H' a xs := by
  rcases h with (h | ⟨o, h⟩) | h
  · exact .inl (.inl (e _ _ h))
  · exact .inl (.inr ⟨o, e _ _ h⟩)
  · exact .inr h
mutual
theorem dp_mono {K : PySem.W.Frag} {H H' : Hp} (e : Same H H') : ∀ {v : V} {d : PyData}, Dp K H v d → Dp K H' v d
  | _, _, .non => .non
  | _, _, .bl b => .bl b
  | _, _, .int i => .int i
  | _, _, .str x => .str x
  | _, _, .lst h a => .lst (e.seq h) (dpAll_mono e a)
  | _, _, .tup h a => .tup (same_t e h) (dpAll_mono e a)
theorem dpAll_mono {K : PySem.W.Frag} {H H' : Hp} (e : Same H H') : ∀ {vs : List V} {ds : List PyData}, DpAll K H vs ds → DpAll K H' vs ds
  | _, _, .nil => .nil
  | _, _, .cons a b => .cons (dp_mono e a) (dpAll_mono e b)
end
theorem dpAll_get {K : PySem.W.Frag} {H : Hp} : ∀ {vs : List V} {ds : List PyData} {i : Nat} {v : V}, DpAll K H vs ds → vs[i]? = some v → ∃ d, ds[i]? = some d ∧ Dp K H v d
  | _, _, 0, _, .cons a _, h => ⟨_, rfl, by cases h; exact a⟩
  | _, _, i + 1, _, .cons _ b, h => dpAll_get (i := i) b h
theorem dpAll_len {K : PySem.W.Frag} {H : Hp} : ∀ {vs : List V} {ds : List PyData}, DpAll K H vs ds → vs.length = ds.length
  | _, _, .nil => rfl
  | _, _, .cons _ b => congrArg (· + 1) (dpAll_len b)
theorem dpAll_strs {K : PySem.W.Frag} {H : Hp} : ∀ ss : List Str, DpAll K H (ss.map V.str) (ss.map PyData.str)
  | [] => .nil
  | s :: r => .cons (.str s) (dpAll_strs r)
theorem dpAll_bls {K : PySem.W.Frag} {H : Hp} : ∀ bs : List Bool, DpAll K H (bs.map V.bl) (bs.map PyData.bool)
  | [] => .nil
  | b :: r => .cons (.bl b) (dpAll_bls r)
theorem eqv_nil (ds : List PyData) : PyData.eqv (.list ds) (.list []) = ds.isEmpty := by
  cases ds with
  | nil => simp [PyData.eqv, PyData.eqvAll]
  | cons d r => simp [PyData.eqv, PyData.eqvAll]
theorem shaped_nil : SeqAt.shaped (.list []) = true := by decide +kernel
theorem canAll_mem {ds : List PyData} : PyData.canLayAll0 ds = true ↔ ∀ d ∈ ds, d.canLay0 = true := by
  induction ds with
  | nil => simp [PyData.canLayAll0]
  | cons d r ih => simp [PyData.canLayAll0, ih]
theorem depthAll_le {ds : List PyData} {n : Nat} (h : ∀ d ∈ ds, d.depth ≤ n) : PyData.depthAll ds ≤ n := by
  induction ds with
  | nil => simp [PyData.depthAll]
  | cons d r ih =>
    have h1 := h d (List.mem_cons_self)
    have h2 := ih fun x hx => h x (List.mem_cons_of_mem _ hx)
    simp only [PyData.depthAll]
    omega
theorem depthAll_mem {ds : List PyData} {d : PyData} (h : d ∈ ds) : d.depth ≤ PyData.depthAll ds := by
  induction ds with
  | nil => cases h
  | cons e r ih =>
    simp only [PyData.depthAll]
    rcases List.mem_cons.mp h with rfl | h
    · omega
    · have := ih h
      omega
theorem shaped_iff {d : PyData} : SeqAt.shaped d = true ↔ d.canLay0 = true ∧ d.depth ≤ 64 := by
  unfold SeqAt.shaped
  rw [Bool.and_eq_true, decide_eq_true_iff]
/-- a list of data that are d deep at most -/
theorem shaped_list {ds : List PyData} {n : Nat} (hn : n < 64) (h : ∀ d ∈ ds, d.canLay0 = true ∧ d.depth ≤ n) : SeqAt.shaped (.list ds) = true := by
  refine shaped_iff.mpr ⟨?_, ?_⟩
  · simp only [PyData.canLay0]
    exact canAll_mem.mpr fun d hd => (h d hd).1
  · have := depthAll_le fun d hd => (h d hd).2
    simp only [PyData.depth]
    omega
theorem shaped_of_tuple {ds : List PyData} (h : SeqAt.shaped (.tuple ds) = true) {d : PyData} (hd : d ∈ ds) : d.canLay0 = true ∧ d.depth ≤ 63 := by
  obtain ⟨h1, h2⟩ := shaped_iff.mp h
  simp only [PyData.canLay0] at h1
  simp only [PyData.depth] at h2
  have := depthAll_mem hd
  exact ⟨canAll_mem.mp h1 d hd, by omega⟩
/-- a value and what it is: data of any depth, or a dict (none) -/
inductive VD (K : PySem.W.Frag) (H : Hp) : V → Option PyData → Prop where
  | dat {v : V} {d : PyData} : Dp K H v d → SeqAt.shaped d = true → (∀ s, d = .str s → s.length ≤ 1000) → VD K H v (some d)
  | dic {a : Addr} {kvs : List (Key × V)} : H a = some (.dK kvs) → VD K H (.ref a) none
theorem VD.mono {K : PySem.W.Frag} {H H' : Hp} (e : Same H H') {v : V} {o : Option PyData} (h : VD K H v o) : VD K H' v o := by
  cases h with
  | dat a b c => exact .dat (dp_mono e a) b c
  | dic a => exact .dic (e _ _ a)
def tyD : PyData → String
  | .none => "NoneType" | .bool _ => "bool" | .int _ => "int" | .str _ => "str" | .list _ => "list" | .tuple _ => "tuple" | .dict _ => "dict"
def tyO : Option PyData → String
  | none => "dict"
  | some d => tyD d
theorem dp_ty {K : PySem.W.Frag} {H : Hp} {v : V} {d : PyData} (h : Dp K H v d) : TyX K H v (.type (tyD d)) := by
  cases h with
  | non => exact .base .non
  | bl b => exact .base (.bl b)
  | int i => exact .base (.int i)
  | str x => exact .base (.str x)
  | lst h _ =>
    rcases h with (h | ⟨o, h⟩) | ⟨o, its, n, h, c, _⟩
    · exact .base (.lst h)
    · exact .base (.frz h)
    · exact .kList h c
  | tup h _ =>
    rcases h with (h | ⟨o, h⟩) | ⟨o, its, n, h, c, _⟩
    · exact .base (.tup h)
    · exact .fTuple h
    · exact .kTuple h c
theorem VD.ty {K : PySem.W.Frag} {H : Hp} {v : V} {o : Option PyData} (h : VD K H v o) : TyX K H v (.type (tyO o)) := by
  cases h with
  | dat a _ _ => exact dp_ty a
  | dic a => exact .base (.dK a)
def isT (T : String) (o : Option PyData) : Bool := tyO o == T || (T == "int" && tyO o == "bool")
theorem tyO_mem (o : Option PyData) : tyO o = "NoneType" ∨ tyO o = "bool" ∨ tyO o = "int" ∨ tyO o = "str" ∨ tyO o = "list" ∨ tyO o = "tuple" ∨ tyO o = "dict" := by
  rcases o with _ | d
  · simp [tyO]
  · cases d <;> simp [tyO, tyD]
theorem kit_o {K : PySem.W.Frag} (o : Option PyData) {T : String} (hT : T = "int" ∨ T = "bool" ∨ T = "str" ∨ T = "tuple") : PySem.W.kitOne K (.type (tyO o)) (.type T) = some (isT T o) := by
  have h := tyO_mem o
  unfold isT
  generalize tyO o = nm at h ⊢
  rcases hT with rfl | rfl | rfl | rfl
  all_goals
    rcases h with rfl | rfl | rfl | rfl | rfl | rfl | rfl
    all_goals exact kit_ty (by decide +kernel)
def nonO : Option PyData → Bool
  | some .none => true
  | _ => false
theorem vd_non {K : PySem.W.Frag} {H : Hp} {v : V} {o : Option PyData} (h : VD K H v o) : decide (v = .non) = nonO o := by
  cases h with
  | dat a _ _ => cases a <;> rfl
  | dic a => rfl
theorem iteFe {c : Bool} {A B : Prop} (h : c = false) (q : B) : if c = true then A else B := by
  subst h
  exact iteF q
theorem iteTe {c : Bool} {A B : Prop} (h : c = true) (q : A) : if c = true then A else B := by
  subst h
  exact iteT q
theorem tyes {te : TE} {σ : L2.St} {H : Hp} {R : V → Hp → Prop} {S : Hp → Prop} (h : te σ H R) : tYes σ H (fun b H3 => if b = true then te σ H3 R else S H3) := by
  show (if true = true then te σ H R else S H)
  exact iteT h
/-! ### comprehensions that change nothing: acc i is what is made behind i turns -/
theorem lc_acc {J : It} {n : Nat} {G : Hp → Prop} {item : Nat → V → Prop} {g : TG} {tt : TT} {te : TE} {vs : List Nat} {σ : L2.St} {H1 : Hp} {D : Addr} {Qd : Hp → Prop} (w : Walk J n G (fun i H x H' => H' = H ∧ item i x)) (hD : H1 D = none) (hG : ∀ H, Same H1 H → G H) (acc : Nat → List V) (h0 : acc 0 = []) (hz : ∀ i, i < n → (acc i).length < sizeLine)
    (hs : ∀ (i : Nat) (x : V) (H : Hp), i < n → item i x → Same H1 H → ∀ (R : V → Hp → Prop) (S : Hp → Prop), (∀ y H4, acc (i + 1) = acc i ++ [y] → Same H H4 → R y H4) → (∀ H3, acc (i + 1) = acc i → Same H H3 → S H3) →
      g x (wipe σ vs) H fun σ2 H2 => wipe σ2 vs = wipe σ vs ∧ tt σ2 H2 fun b H3 => if b = true then te σ2 H3 R else S H3)
    (hd : ∀ H, Same H1 H → H D = some (.lst (acc n)) → Qd H) : ∃ W : Nat → Nat → Hp → Prop, (∃ m, W 0 m (upd H1 D (.lst []))) ∧ ∀ i m H, W i m H →
      (J.stop i H ∧ Qd H) ∨ (J.go i H ∧ ∃ Nx : Hp → Prop, (∀ H', Nx H' → ∃ m', m' < m ∧ W (i + 1) m' H') ∧ ∀ x H', J.yld i H x H' → g x (wipe σ vs) H' fun σ2 H2 => wipe σ2 vs = wipe σ vs ∧ tt σ2 H2 fun b H3 =>
        if b = true then te σ2 H3 fun y H4 => ∃ acc, H4 D = some (.lst acc) ∧ acc.length < sizeLine ∧ Nx (upd H4 D (.lst (acc ++ [y]))) else Nx H3) := by
  refine lc_it w (fun i H => Same H1 H ∧ H D = some (.lst (acc i))) ⟨fun b o e => ?_, ?_⟩ (fun i H _ p => hG H p.1) ?_ (fun H p => hd H p.1 p.2)
  · rw [upd_ne (ne_of_none e hD)]
    exact e
  · rw [upd_same, h0]
  · rintro i x H H' hi ⟨s1, hl⟩ ⟨rfl, hx⟩
    refine hs i x _ hi hx s1 _ _ (fun y H4 e s2 => ⟨acc i, s2 _ _ hl, hz i hi, ⟨fun b o eb => ?_, by rw [upd_same, e]⟩⟩) (fun H3 e s2 => ⟨s1.trans s2, by rw [e]; exact s2 _ _ hl⟩)
    rw [upd_ne (ne_of_none eb hD)]
    exact s2 _ _ (s1 _ _ eb)
/-! ### texts and their bounds -/
theorem same_new {H : Hp} {q : Addr} {o : HO} (h : H q = none) : Same H (upd H q o) := fun b u e => by
  rw [upd_ne (ne_of_none e h)]
  exact e
/-- at most n signs, all of them signs -/
def sOk (n : Nat) (s : Str) : Prop := s.length ≤ n ∧ PyData.strOk s = true
theorem strOk_iff {s : Str} : PyData.strOk s = true ↔ ∀ c ∈ s.cps.toList, c < 0x110000 := by
  unfold PyData.strOk
  rw [Array.all_eq_true']
  constructor
  · intro h c hc
    exact of_decide_eq_true (h c (by simpa using hc))
  · intro h c hc
    exact decide_eq_true (h c (by simpa using hc))
theorem sOk.mono {n m : Nat} {s : Str} (h : sOk n s) (e : n ≤ m) : sOk m s := ⟨Nat.le_trans h.1 e, h.2⟩
theorem sOk.app {n m : Nat} {a b : Str} (h : sOk n a) (k : sOk m b) : sOk (n + m) (a ++ b) := by
  refine ⟨?_, strOk_iff.mpr fun c hc => ?_⟩
  · rw [Str.length_append]
    exact Nat.add_le_add h.1 k.1
  · rw [Str.cps_append, Array.toList_append] at hc
    rcases List.mem_append.mp hc with q | q
    · exact strOk_iff.mp h.2 c q
    · exact strOk_iff.mp k.2 c q
theorem sOk.cut {n : Nat} {a : Str} (h : sOk n a) (lo hi : Option Int) : sOk n (cutS a lo hi) := by
  refine ⟨Nat.le_trans (cutS_length _ _ _) h.1, strOk_iff.mpr fun c hc => ?_⟩
  unfold cutS at hc
  have hc' : c ∈ a.cps.toList := List.mem_of_mem_drop (List.mem_of_mem_take (by simpa using hc))
  exact strOk_iff.mp h.2 c hc'
theorem joinL_nil : ∀ ps : List (List Nat), TL.joinL [] ps = ps.flatten
  | [] => rfl
  | [p] => by simp [TL.joinL]
  | p :: q :: r => by
    have ih := joinL_nil (q :: r)
    simp only [TL.joinL, ih]
    simp
theorem flat_len : ∀ (ys : List Str) (n : Nat), (∀ y ∈ ys, y.length ≤ n) → ((ys.map TL.tl).flatten).length ≤ ys.length * n
  | [], _, _ => by simp
  | y :: r, n, h => by
    have ih := flat_len r n fun z hz => h z (List.mem_cons_of_mem _ hz)
    have h1 : y.length ≤ n := h y List.mem_cons_self
    have h2 : (TL.tl y).length = y.length := by simp [TL.tl, Str.length]
    simp only [List.map_cons, List.flatten_cons, List.length_append, List.length_cons, Nat.add_mul, Nat.one_mul]
    omega
theorem join_ok {ys : List Str} {n : Nat} (h : ∀ y ∈ ys, sOk n y) : sOk (ys.length * n) (Txt.join Str.empty ys) := by
  have e : TL.tl (Txt.join Str.empty ys) = (ys.map TL.tl).flatten := by
    rw [TL.join_eq, TL.tl_join]
    exact joinL_nil _
  refine ⟨?_, strOk_iff.mpr fun c hc => ?_⟩
  · have h1 : (Txt.join Str.empty ys).length = (TL.tl (Txt.join Str.empty ys)).length := by simp [TL.tl, Str.length]
    rw [h1, e]
    exact flat_len ys n fun y hy => (h y hy).1
  · have hc' : c ∈ TL.tl (Txt.join Str.empty ys) := hc
    rw [e] at hc'
    obtain ⟨l, hl, hcl⟩ := List.mem_flatten.mp hc'
    obtain ⟨y, hy, rfl⟩ := List.mem_map.mp hl
    exact strOk_iff.mp (h y hy).2 c hcl
theorem sum_le : ∀ (ys : List Str) (n : Nat), (∀ y ∈ ys, y.length ≤ n) → (ys.map (·.length)).sum ≤ ys.length * n
  | [], _, _ => by simp
  | y :: r, n, h => by
    have ih := sum_le r n fun z hz => h z (List.mem_cons_of_mem _ hz)
    have h1 : y.length ≤ n := h y List.mem_cons_self
    simp only [List.map_cons, List.sum_cons, List.length_cons, Nat.add_mul, Nat.one_mul]
    omega
/-- an item at an open place within -/
theorem atI_in {α : Type} {xs : List α} {z : Int} (h0 : 0 ≤ z) (h1 : z < xs.length) : ∃ v, atI xs z = some v ∧ v ∈ xs := by
  obtain ⟨j, rfl⟩ := Int.eq_ofNat_of_zero_le h0
  have hj : j < xs.length := by omega
  exact ⟨xs[j], atI_nat (List.getElem?_eq_getElem hj), List.getElem_mem hj⟩
theorem op_mul_str {X : Cx} : OpR X (binaryOp .Mult) (fun x y H Q => ∃ z n, x = .str z ∧ y = .int n ∧ MulOk z n ∧ Q (.str (Txt.mul z n)) H) := by
  intro pins s σ H x y v u Q I rx ry h
  obtain ⟨z, n, rfl, rfl, hz, q⟩ := h
  obtain ⟨t, rfl⟩ := rx
  obtain ⟨t', rfl⟩ := ry
  exact SB.mul hz fun t' tk => ⟨.str (Txt.mul z n), H, I.tok _, ⟨_, rfl⟩, q⟩
theorem BoxIn.low {H0 H1 H : Hp} {p : Addr} {n : Nat} (b : BoxIn H1 H p n) (s : Same H0 H1) : BoxIn H0 H p n := ⟨s.trans b.same, s.free b.free, b.box⟩
theorem BoxIn.mut {H0 H : Hp} {p D : Addr} {n : Nat} {o : HO} (b : BoxIn H0 H p n) (h1 : D ≠ p) (h2 : H0 D = none) : BoxIn H0 (upd H D o) p n := by
  obtain ⟨d, s', c, h, hh⟩ := b.box
  refine ⟨fun x u e => ?_, b.free, d, s', c, by rw [upd_ne h1.symm]; exact h, hh⟩
  rw [upd_ne (ne_of_none e h2)]
  exact b.same _ _ e
/-- what a def draws: Good of the value, with what is known then -/
def sp_draw (c : Nat) (Good : Hp → V → Prop) : Sp := fun vs H Q _ => ∃ (H0 : Hp) (p : Addr) (n : Nat), vs = [.ref p] ∧ BoxIn H0 H p n ∧ n + c < 1000000 ∧ ∀ (H1 H' : Hp) (v : V), Same H0 H1 → BoxIn H1 H' p (n + c) → Good H1 v → Q v H'
/-! ### the mirror -/
def intO (o : Option PyData) : Bool := isT "int" o && !isT "bool" o
def limO (o : Option PyData) : Bool := nonO o || intO o
def okSign (c : Nat) : Bool := !decide (([c] : List Nat) < [97]) && !decide (([122] : List Nat) < [c])
def nameS (s : Str) : Bool := !(s == ("table" : Str)) && (decide ((1 : Int) ≤ s.length) && (decide ((s.length : Int) ≤ 8) && s.cps.toList.all okSign))
def nameO : Option PyData → Bool
  | some (.str s) => nameS s
  | _ => false
def ltO : PyData → PyData → Bool
  | .int i, .int j => decide (i < j)
  | _, _ => true
def spanO : Option PyData → Bool
  | some (.tuple [l, h]) => limO (some l) && (limO (some h) && ltO l h)
  | _ => false
theorem spanO_no {ds : List PyData} (h : ds.length ≠ 2) : spanO (some (.tuple ds)) = false := by
  match ds, h with
  | [], _ => rfl
  | [_], _ => rfl
  | [_, _], hl => exact absurd rfl hl
  | _ :: _ :: _ :: _, _ => rfl
theorem dp_two {K : PySem.W.Frag} {H : Hp} {xs : List V} {ds : List PyData} (h : DpAll K H xs ds) (e : xs.length = 2) : ∃ x y d e, xs = [x, y] ∧ ds = [d, e] ∧ Dp K H x d ∧ Dp K H y e := by
  match xs, ds, h, e with
  | [x, y], [d, e], .cons h1 (.cons h2 .nil), _ => exact ⟨x, y, d, e, rfl, rfl, h1, h2⟩
theorem spanO_ty {o : Option PyData} (e : isT "tuple" o = false) : spanO o = false := by
  rcases o with _ | d
  · rfl
  · cases d with
    | tuple s => cases e
    | _ => rfl
theorem nameO_no {o : Option PyData} (e : isT "str" o = false) : nameO o = false := by
  rcases o with _ | d
  · rfl
  · cases d with
    | str s => cases e
    | _ => rfl
theorem VD.str_of {K : PySem.W.Frag} {H : Hp} {v : V} {o : Option PyData} (hv : VD K H v o) (e : isT "str" o = true) : ∃ s, v = .str s ∧ o = some (.str s) ∧ s.length ≤ 1000 ∧ PyData.strOk s = true := by
  cases hv with
  | dat a b c =>
    cases a with
    | str s =>
      have := (shaped_iff.mp b).1
      simp only [PyData.canLay0] at this
      exact ⟨s, rfl, rfl, c s rfl, this⟩
    | _ => cases e
  | dic a => cases e
theorem VD.tup_of {K : PySem.W.Frag} {H : Hp} {v : V} {o : Option PyData} (hv : VD K H v o) (e : isT "tuple" o = true) : ∃ a xs ds, v = .ref a ∧ o = some (.tuple ds) ∧ SqT K H a xs ∧ DpAll K H xs ds ∧ SeqAt.shaped (.tuple ds) = true := by
  cases hv with
  | dat a b c =>
    cases a with
    | tup h1 h2 => exact ⟨_, _, _, rfl, rfl, h1, h2, b⟩
    | _ => cases e
  | dic a => cases e
theorem strOk_mem {s : Str} (h : PyData.strOk s = true) {c : Nat} (hc : c ∈ s.cps.toList) : c < 0x110000 := by
  unfold PyData.strOk at h
  rw [Array.all_eq_true'] at h
  exact of_decide_eq_true (h c (by simpa using hc))
theorem strOk_sign {c : Nat} (h : c < 0x110000) : PyData.strOk ⟨#[c]⟩ = true := by
  unfold PyData.strOk
  simp
  omega
/-- the values that are no limits -/
def filt : List V → List PyData → List V
  | x :: xs, d :: ds => if limO (some d) = true then filt xs ds else x :: filt xs ds
  | _, _ => []
theorem filt_len : ∀ (xs : List V) (ds : List PyData), (filt xs ds).length ≤ xs.length
  | [], _ => by simp [filt]
  | _ :: _, [] => by simp [filt]
  | x :: xs, d :: ds => by
    have ih := filt_len xs ds
    simp only [filt]
    split
    · simp only [List.length_cons]
      omega
    · simp only [List.length_cons]
      omega
theorem filt_step : ∀ {xs : List V} {ds : List PyData} {i : Nat} {x : V} {d : PyData}, xs[i]? = some x → ds[i]? = some d → filt (xs.take (i + 1)) (ds.take (i + 1)) = if limO (some d) = true then filt (xs.take i) (ds.take i) else filt (xs.take i) (ds.take i) ++ [x]
  | [], _, _, _, _, h, _ => by simp at h
  | _ :: _, [], _, _, _, _, h => by simp at h
  | y :: ys, e :: es, 0, x, d, h1, h2 => by
    cases h1
    cases h2
    simp [filt]
  | y :: ys, e :: es, i + 1, x, d, h1, h2 => by
    have ih := filt_step (xs := ys) (ds := es) (i := i) (x := x) (d := d) (by simpa using h1) (by simpa using h2)
    simp only [List.take_succ_cons, filt, ih]
    split <;> split <;> simp
theorem filt_dp {K : PySem.W.Frag} {H : Hp} : ∀ {xs : List V} {ds : List PyData}, DpAll K H xs ds → DpAll K H (filt xs ds) (ds.filter fun d => !limO (some d))
  | _, _, .nil => by simp [filt]; exact .nil
  | _, _, .cons (v := v) (d := d) a b => by
    have ih := filt_dp b
    simp only [filt]
    cases h : limO (some d) with
    | true =>
      simp [h]
      exact ih
    | false =>
      simp [h]
      exact .cons a ih
theorem okSign_is (c : Nat) : okSign c = decide (c ∈ ("abcdefghijklmnopqrstuvwxyz" : Str).cps.toList) := by
  have e : ("abcdefghijklmnopqrstuvwxyz" : Str).cps.toList = [97, 98, 99, 100, 101, 102, 103, 104, 105, 106, 107, 108, 109, 110, 111, 112, 113, 114, 115, 116, 117, 118, 119, 120, 121, 122] := by decide +kernel
  rw [e]
  unfold okSign
  rw [Bool.eq_iff_iff, Bool.and_eq_true, decide_eq_true_iff, Bool.not_eq_true', Bool.not_eq_true', decide_eq_false_iff_not, decide_eq_false_iff_not]
  simp only [List.cons_lt_cons_iff, List.not_lt_nil, and_false, or_false, List.mem_cons, List.not_mem_nil]
  omega
def sp_v1 (K : PySem.W.Frag) (f : Option PyData → Bool) : Sp := fun vs H Q _ => ∃ (v : V) (o : Option PyData), vs = [v] ∧ VD K H v o ∧ ∀ H', Same H H' → Q (.bl (f o)) H'
/-- the same without a word on the heap: nothing is made -/
def sp_v0 (K : PySem.W.Frag) (f : Option PyData → Bool) : Sp := fun vs H Q _ => ∃ (v : V) (d : PyData), vs = [v] ∧ Dp K H v d ∧ Q (.bl (f (some d))) H
def sp_vO (K : PySem.W.Frag) (f : Option PyData → Bool) : Sp := fun vs H Q _ => ∃ (v : V) (o : Option PyData), vs = [v] ∧ TyX K H v (.type (tyO o)) ∧ decide (v = .non) = nonO o ∧ Q (.bl (f o)) H
theorem dp_vO {K : PySem.W.Frag} {H : Hp} {v : V} {d : PyData} (h : Dp K H v d) : TyX K H v (.type (tyO (some d))) ∧ decide (v = .non) = nonO (some d) := by
  refine ⟨dp_ty h, ?_⟩
  cases h <;> rfl
theorem vd_vO {K : PySem.W.Frag} {H : Hp} {v : V} {o : Option PyData} (h : VD K H v o) : TyX K H v (.type (tyO o)) ∧ decide (v = .non) = nonO o := ⟨h.ty, vd_non h⟩
/-! ### spans as two limits -/
abbrev Span := Option Int × Option Int
def limV : Option Int → V
  | none => .non
  | some i => .int i
def limD : Option Int → PyData
  | none => .none
  | some i => .int i
def okS : Span → Bool
  | (some l, some h) => decide (l < h)
  | _ => true
def spD (s : Span) : PyData := .tuple [limD s.1, limD s.2]
def spV (s : Span) : List V := [limV s.1, limV s.2]
def loB (l : Option Int) (k : Int) : Bool := match l with | none => true | some i => decide (i ≤ k)
def hiB (h : Option Int) (k : Int) : Bool := match h with | none => true | some i => decide (k < i)
def inS (s : Span) (k : Int) : Bool := loB s.1 k && hiB s.2 k
def maxO : Option Int → Option Int → Option Int
  | none, b => b
  | a, none => a
  | some a, some b => some (max a b)
def minO : Option Int → Option Int → Option Int
  | none, b => b
  | a, none => a
  | some a, some b => some (min a b)
def comS (s t : Span) : Span := (maxO s.1 t.1, minO s.2 t.2)
theorem spanO_ok (s : Span) : spanO (some (spD s)) = okS s := by
  obtain ⟨l, h⟩ := s
  cases l <;> cases h <;> rfl
theorem limO_of {d : PyData} (h : limO (some d) = true) : ∃ l, d = limD l := by
  cases d with
  | none => exact ⟨none, rfl⟩
  | int i => exact ⟨some i, rfl⟩
  | _ => cases h
theorem spanO_of {o : Option PyData} (h : spanO o = true) : ∃ s, o = some (spD s) ∧ okS s = true := by
  rcases o with _ | d
  · cases h
  · cases d with
    | tuple ds =>
      by_cases e : ds.length = 2
      · match ds, e with
        | [a, b], _ =>
          have h' : (limO (some a) && (limO (some b) && ltO a b)) = true := h
          rw [Bool.and_eq_true, Bool.and_eq_true] at h'
          obtain ⟨l, rfl⟩ := limO_of h'.1
          obtain ⟨u, rfl⟩ := limO_of h'.2.1
          exact ⟨(l, u), rfl, (spanO_ok (l, u)).symm.trans h⟩
      · rw [spanO_no e] at h
        cases h
    | _ => cases h
theorem dp_lim {K : PySem.W.Frag} {H : Hp} (l : Option Int) : Dp K H (limV l) (limD l) := by
  cases l with
  | none => exact .non
  | some i => exact .int i
theorem limD_inj {l u : Option Int} (h : limD l = limD u) : l = u := by
  cases l <;> cases u <;> cases h <;> rfl
theorem lim_of_dp {K : PySem.W.Frag} {H : Hp} {v : V} {l : Option Int} (h : Dp K H v (limD l)) : v = limV l := by
  cases l with
  | none => cases h; rfl
  | some i => cases h; rfl
theorem dpAll_spV {K : PySem.W.Frag} {H : Hp} (s : Span) : DpAll K H (spV s) [limD s.1, limD s.2] := .cons (dp_lim _) (.cons (dp_lim _) .nil)
theorem shaped_sp (s : Span) : SeqAt.shaped (spD s) = true := by
  obtain ⟨l, h⟩ := s
  cases l <;> cases h <;> rfl
theorem vd_sp {K : PySem.W.Frag} {H : Hp} {a : Addr} {s : Span} (h : SqT K H a (spV s)) : VD K H (.ref a) (some (spD s)) := .dat (.tup h (dpAll_spV s)) (shaped_sp s) fun x e => by cases e
theorem VD.sp {K : PySem.W.Frag} {H : Hp} {v : V} {s : Span} (h : VD K H v (some (spD s))) : ∃ a, v = .ref a ∧ SqT K H a (spV s) := by
  cases h with
  | dat d _ _ =>
    cases d with
    | tup h1 h2 =>
      cases h2 with
      | cons a b =>
        cases b with
        | cons c e =>
          cases e
          rw [lim_of_dp a, lim_of_dp c] at h1
          exact ⟨_, rfl, h1⟩
theorem intO_of {K : PySem.W.Frag} {H : Hp} {v : V} {o : Option PyData} (h : VD K H v o) (e : intO o = true) : ∃ i, v = .int i ∧ o = some (.int i) := by
  cases h with
  | dat a _ _ =>
    cases a with
    | int i => exact ⟨i, rfl, rfl⟩
    | _ => cases e
  | dic a => cases e
/-! ### what is raised -/
/-- an exception of the class at C leaves, with v as its field f -/
def Rz (H : Hp) (E : XK) (C : Addr) (f : Str) (v : V) : Prop := ∀ (d : Addr) (H' : Hp), H d = none → H' d = some (.xd [(f, v)]) → Same H H' → E (.ref C) (some d) H'
theorem Rz.back {H H1 : Hp} {E : XK} {C : Addr} {f : Str} {v : V} (s : Same H H1) (h : Rz H E C f v) : Rz H1 E C f v := fun d H' n x k => h d H' (s.free n) x (s.trans k)
/-- X.__init__: the one field -/
def sp_xinit (K : PySem.W.Frag) (C : Addr) (f : Str) : Sp := fun vs H Q _ => ∃ (a : Addr) (v : V), vs = [.ref a, v] ∧ OexC K C ∧ PySem.W.findIn K (.ref C) f = some none ∧ H a = some (exo a C none) ∧ ∀ dx, H dx = none → dx ≠ a → Q .non (upd (upd H dx (exd dx [(f, v)])) a (exo a C (some dx)))
/-- the reading of «raise X(v)» -/
theorem raise_x {K : PySem.W.Frag} {H : Hp} {E : XK} {C : Addr} {f : Str} {v : V} (x : OexC K C) (n : PySem.W.findIn K (.ref C) f = some none) (h : Rz H E C f v) : ([v] : List V).length ≤ 1000 ∧ ∀ a, H a = none → sp_xinit K C f (.ref a :: ([v] ++ [])) (upd H a (exo a C none))
    (fun v' H2 => v' = .non ∧ ∃ (d : Addr) (fs : List (Str × V)), H2 a = some (exo a C (some d)) ∧ H2 d = some (exd d fs) ∧ H d = none ∧ E (.ref C) (some d) (upd (del H2 a) d (.xd fs))) (fun _ _ _ => False) := by
  refine ⟨by show 1 ≤ 1000; decide, fun a ha => ⟨a, v, rfl, x, n, upd_same, fun dx hdx ne => ⟨rfl, dx, [(f, v)], upd_same, by rw [upd_ne ne, upd_same], ?_, ?_⟩⟩⟩
  · rw [upd_ne ne] at hdx
    exact hdx
  · rw [upd_ne ne] at hdx
    refine h dx _ hdx upd_same fun b o e => ?_
    have nb : b ≠ a := ne_of_none e ha
    have nd : b ≠ dx := ne_of_none e hdx
    rw [upd_ne nd, del_ne nb, upd_ne nb, upd_ne nd, upd_ne nb]
    exact e
/-! ### promises -/
def sp_req (K : PySem.W.Frag) (f : Option PyData → Bool) (C : Addr) (fld : Str) : Sp := fun vs H Q E => ∃ (v : V) (o : Option PyData), vs = [v] ∧ VD K H v o ∧ (f o = true → ∀ H', Same H H' → Q .non H') ∧ (f o = false → Rz H E C fld v)
def sp_in_span (K : PySem.W.Frag) (CS CK : Addr) : Sp := fun vs H Q E => ∃ (x y : V) (o o2 : Option PyData), vs = [x, y] ∧ VD K H x o ∧ VD K H y o2 ∧ (spanO o = false → Rz H E CS "value" x) ∧ (spanO o = true → intO o2 = false → Rz H E CK "value" y) ∧
  ∀ (s : Span) (k : Int), o = some (spD s) → okS s = true → o2 = some (.int k) → ∀ H', Same H H' → Q (.bl (inS s k)) H'
def sp_common (K : PySem.W.Frag) (CS : Addr) : Sp := fun vs H Q E => ∃ (x y : V) (o o2 : Option PyData), vs = [x, y] ∧ VD K H x o ∧ VD K H y o2 ∧ (spanO o = false → Rz H E CS "value" x) ∧ (spanO o = true → spanO o2 = false → Rz H E CS "value" y) ∧
  ∀ (s t : Span), o = some (spD s) → okS s = true → o2 = some (spD t) → okS t = true → (okS (comS s t) = true → ∀ p H', Same H H' → H p = none → H' p = some (.tup (spV (comS s t))) → Q (.ref p) H') ∧ (okS (comS s t) = false → ∀ H', Same H H' → Q .non H')
def sp_meet (K : PySem.W.Frag) (CS : Addr) : Sp := fun vs H Q E => ∃ (x y : V) (o o2 : Option PyData), vs = [x, y] ∧ VD K H x o ∧ VD K H y o2 ∧ (spanO o = false → Rz H E CS "value" x) ∧ (spanO o = true → spanO o2 = false → Rz H E CS "value" y) ∧
  ∀ (s t : Span), o = some (spD s) → okS s = true → o2 = some (spD t) → okS t = true → ∀ H', Same H H' → Q (.bl (okS (comS s t))) H'
def lowsL (a b : Option Int) : List Int := (a.toList ++ b.toList)
theorem limV_non (l : Option Int) : decide (limV l = .non) = l.isNone := by
  cases l <;> rfl
theorem max_none {a b : Option Int} (e : lowsL a b = []) : V.non = limV (maxO a b) := by
  cases a <;> cases b <;> first | rfl | cases e
theorem min_none {a b : Option Int} (e : lowsL a b = []) : V.non = limV (minO a b) := by
  cases a <;> cases b <;> first | rfl | cases e
theorem max_some {a b : Option Int} {m : Int} (h1 : m ∈ lowsL a b) (h2 : ∀ n ∈ lowsL a b, n ≤ m) : V.int m = limV (maxO a b) := by
  cases a with
  | none =>
    cases b with
    | none => cases h1
    | some y =>
      obtain rfl : m = y := by simpa [lowsL] using h1
      rfl
  | some x =>
    cases b with
    | none =>
      obtain rfl : m = x := by simpa [lowsL] using h1
      rfl
    | some y =>
      have hx := h2 x (by simp [lowsL])
      have hy := h2 y (by simp [lowsL])
      have hm : m = x ∨ m = y := by simpa [lowsL] using h1
      show V.int m = V.int (max x y)
      congr 1
      omega
theorem min_some {a b : Option Int} {m : Int} (h1 : m ∈ lowsL a b) (h2 : ∀ n ∈ lowsL a b, m ≤ n) : V.int m = limV (minO a b) := by
  cases a with
  | none =>
    cases b with
    | none => cases h1
    | some y =>
      obtain rfl : m = y := by simpa [lowsL] using h1
      rfl
  | some x =>
    cases b with
    | none =>
      obtain rfl : m = x := by simpa [lowsL] using h1
      rfl
    | some y =>
      have hx := h2 x (by simp [lowsL])
      have hy := h2 y (by simp [lowsL])
      have hm : m = x ∨ m = y := by simpa [lowsL] using h1
      show V.int m = V.int (min x y)
      congr 1
      omega
/-! ### texts of whole numbers -/
abbrev tl := TL.tl
def isDig (c : Nat) : Bool := decide (48 ≤ c) && decide (c ≤ 57)
def sgn (w : List Nat) : Bool × List Nat := match w with
  | 45 :: r => (true, r)
  | _ => (false, w)
def digOk (r : List Nat) : Bool := decide (1 ≤ r.length) && (decide (r.length ≤ 30) && r.all isDig)
def zeroed (w : List Nat) : Bool := ((sgn w).2.head? == some 48) && !(w == [48])
def worth (w : List Nat) : Int := if (sgn w).1 = true then -((NumText.digitsVal (sgn w).2 : Nat) : Int) else ((NumText.digitsVal (sgn w).2 : Nat) : Int)
/-- the number that a text is, if it is one's -/
def numO (w : List Nat) : Option Int := if (digOk (sgn w).2 && !zeroed w) = true then some (worth w) else none
theorem allDig {r : List Nat} : r.all isDig = true ↔ NumText.AllDigits r := by
  unfold NumText.AllDigits
  simp [isDig, List.all_eq_true]
theorem snocInd {P : List Nat → Prop} (h0 : P []) (h1 : ∀ r c, P r → P (r ++ [c])) (r : List Nat) : P r := by
  have : ∀ n (r : List Nat), r.length = n → P r := by
    intro n
    induction n with
    | zero => intro r h; cases r with
      | nil => exact h0
      | cons a r => cases h
    | succ n ih =>
      intro r h
      have hr : r ≠ [] := fun z => by rw [z] at h; cases h
      rw [← List.dropLast_concat_getLast hr]
      exact h1 _ _ (ih _ (by rw [List.length_dropLast, h]; rfl))
  exact this _ r rfl
theorem val_snoc (r : List Nat) (c : Nat) : NumText.digitsVal (r ++ [c]) = NumText.digitsVal r * 10 + (c - 48) := by
  unfold NumText.digitsVal
  rw [List.foldl_append]
  rfl
theorem num_head {n : Nat} (h : 0 < n) : (TL.numL n).head? ≠ some 48 := by
  induction n using Nat.strongRecOn with
  | _ n ih =>
    by_cases h10 : n < 10
    · rw [TL.numL_lt h10]
      simp
      omega
    · rw [TL.numL_step (by omega)]
      have e := ih (n / 10) (by omega) (by omega)
      cases hn : TL.numL (n / 10) with
      | nil => exact absurd hn (TL.numL_ne _)
      | cons a r =>
        rw [hn] at e
        exact e
theorem val_pos : ∀ (r : List Nat), NumText.AllDigits r → r.head? ≠ some 48 → r ≠ [] → 0 < NumText.digitsVal r := by
  refine snocInd ?_ ?_
  · intro _ _ h
    exact absurd rfl h
  · intro r c ih hd hh _
    rw [val_snoc]
    cases r with
    | nil =>
      have h1 := hd c (by simp)
      have h2 : c ≠ 48 := fun e => hh (by rw [e]; rfl)
      omega
    | cons a r =>
      have := ih (fun x hx => hd x (List.mem_append_left _ hx)) hh (by simp)
      omega
theorem num_back : ∀ (r : List Nat), NumText.AllDigits r → r ≠ [] → (r.head? ≠ some 48 ∨ r = [48]) → TL.numL (NumText.digitsVal r) = r := by
  refine snocInd ?_ ?_
  · intro _ h
    exact absurd rfl h
  · intro r c ih hd _ hh
    have hc := hd c (by simp)
    rw [val_snoc]
    cases r with
    | nil =>
      have e : NumText.digitsVal [] * 10 + (c - 48) = c - 48 := by
        show 0 * 10 + (c - 48) = c - 48
        omega
      rw [e, TL.numL_lt (by omega)]
      show [48 + (c - 48)] = [c]
      congr 1
      omega
    | cons a r =>
      have hd' : NumText.AllDigits (a :: r) := fun x hx => hd x (List.mem_append_left _ hx)
      have hh' : (a :: r).head? ≠ some 48 := by
        rcases hh with h | h
        · exact h
        · simp at h
      have hp := val_pos (a :: r) hd' hh' (by simp)
      have hi := ih hd' (by simp) (.inl hh')
      rw [TL.numL_step (by omega)]
      have e1 : (NumText.digitsVal (a :: r) * 10 + (c - 48)) / 10 = NumText.digitsVal (a :: r) := by omega
      have e2 : 48 + (NumText.digitsVal (a :: r) * 10 + (c - 48)) % 10 = c := by omega
      rw [e1, e2, hi]
theorem num_zero {n : Nat} (h : (TL.numL n).head? = some 48) : TL.numL n = [48] := by
  by_cases hn : 0 < n
  · exact absurd h (num_head hn)
  · obtain rfl : n = 0 := by omega
    exact TL.numL_lt (by decide)
/-- the signs of str(i) -/
def intL (i : Int) : List Nat := if i < 0 then 45 :: TL.numL i.natAbs else TL.numL i.natAbs
theorem tl_int (i : Int) : tl (Str.ofString (toString i)) = intL i := by
  cases i with
  | ofNat n =>
    have : intL (Int.ofNat n) = TL.numL n := by
      unfold intL
      rw [if_neg (by simp)]
      rfl
    rw [this]
    exact TL.tl_num n
  | negSucc n =>
    have e1 : intL (Int.negSucc n) = 45 :: TL.numL (n + 1) := by
      unfold intL
      rw [if_pos (Int.negSucc_lt_zero n)]
      rfl
    have e2 : (toString (Int.negSucc n) : String) = "-" ++ toString (n + 1) := rfl
    rw [e1, e2]
    show (Str.ofString ("-" ++ toString (n + 1))).cps.toList = _
    rw [Str.ofString_eq_toList]
    show (("-" ++ toString (n + 1)).toList.map Char.toNat) = _
    rw [String.toList_append, List.map_append]
    have e3 := TL.tl_num (n + 1)
    have e4 : TL.tl (Str.ofString (toString (((n + 1 : Nat)) : Int))) = ((toString (n + 1)).toList.map Char.toNat) := by
      show (Str.ofString (toString (n + 1))).cps.toList = _
      rw [Str.ofString_eq_toList]
    rw [e4] at e3
    rw [e3]
    rfl
theorem sgn_cases (w : List Nat) : (∃ r, w = 45 :: r ∧ sgn w = (true, r)) ∨ (w.head? ≠ some 45 ∧ sgn w = (false, w)) := by
  cases w with
  | nil => exact .inr ⟨by simp, rfl⟩
  | cons c r =>
    by_cases h : c = 45
    · subst h
      exact .inl ⟨r, rfl, rfl⟩
    · refine .inr ⟨by simpa using h, ?_⟩
      unfold sgn
      split
      · rename_i heq
        injection heq with h1 _
        exact absurd h1 h
      · rfl
theorem digOk_iff {r : List Nat} : digOk r = true ↔ 1 ≤ r.length ∧ r.length ≤ 30 ∧ NumText.AllDigits r := by
  unfold digOk
  rw [Bool.and_eq_true, Bool.and_eq_true, decide_eq_true_iff, decide_eq_true_iff, allDig]
/-- int(w), digits with a sign or none -/
theorem int_of {x : Str} (h : digOk (sgn (tl x)).2 = true) : PySem.intText? x = some (worth (tl x)) := by
  obtain ⟨h1, h2, h3⟩ := digOk_iff.mp h
  have hx : x.length = (tl x).length := TL.len_tl x
  rcases sgn_cases (tl x) with ⟨r, e, e2⟩ | ⟨_, e2⟩
  · rw [e2] at h1 h2 h3
    have hr : r ≠ [] := fun z => by rw [z] at h1; simp at h1
    have := PySem.intText_neg (x := x) e h3 hr (by have h4 : r.length ≤ 30 := h2; rw [hx, e, List.length_cons]; omega)
    rw [this]
    unfold worth
    rw [e2]
    rfl
  · rw [e2] at h1 h2 h3
    have hr : tl x ≠ [] := fun z => by rw [z] at h1; simp at h1
    have := PySem.intText_digits (x := x) h3 hr (by have h4 : (tl x).length ≤ 30 := h2; rw [hx]; omega)
    rw [this]
    unfold worth
    rw [e2]
    rfl
/-- it is written back just if no zero is needless -/
theorem back_iff {w : List Nat} (h : digOk (sgn w).2 = true) : (intL (worth w) = w) ↔ zeroed w = false := by
  obtain ⟨h1, h2, h3⟩ := digOk_iff.mp h
  rcases sgn_cases w with ⟨r, e, e2⟩ | ⟨hh, e2⟩
  · rw [e2] at h1 h2 h3
    have hr : r ≠ [] := fun z => by rw [z] at h1; simp at h1
    have ew : worth w = -((NumText.digitsVal r : Nat) : Int) := by unfold worth; rw [e2]; rfl
    have ez : zeroed w = (r.head? == some 48) := by
      unfold zeroed
      rw [e2, e]
      cases r with
      | nil => exact absurd rfl hr
      | cons a b => simp
    rw [ew, ez]
    by_cases hz : r.head? = some 48
    · constructor
      · intro hb
        exfalso
        unfold intL at hb
        by_cases hn : -((NumText.digitsVal r : Nat) : Int) < 0
        · rw [if_pos hn, e] at hb
          injection hb with _ hb
          have e3 : (-((NumText.digitsVal r : Nat) : Int)).natAbs = NumText.digitsVal r := by omega
          rw [e3] at hb
          have hp : 0 < NumText.digitsVal r := by omega
          exact num_head hp (by rw [hb]; exact hz)
        · have h0 : NumText.digitsVal r = 0 := by omega
          rw [if_neg hn, h0, e] at hb
          have : TL.numL 0 = [48] := TL.numL_lt (by decide)
          rw [show (-((0 : Nat) : Int)).natAbs = 0 from rfl, this] at hb
          injection hb with hb _
          cases hb
      · intro hb
        rw [hz] at hb
        cases hb
    · constructor
      · intro _
        simpa using hz
      · intro _
        have hp := val_pos r h3 hz hr
        unfold intL
        rw [if_pos (by omega)]
        have e3 : (-((NumText.digitsVal r : Nat) : Int)).natAbs = NumText.digitsVal r := by omega
        rw [e3, num_back r h3 hr (.inl hz), e]
  · rw [e2] at h1 h2 h3
    have hr : w ≠ [] := fun z => by rw [z] at h1; simp at h1
    have ew : worth w = ((NumText.digitsVal w : Nat) : Int) := by unfold worth; rw [e2]; rfl
    have ei : intL (worth w) = TL.numL (NumText.digitsVal w) := by
      rw [ew]
      unfold intL
      rw [if_neg (by omega)]
      rfl
    have ez : zeroed w = ((w.head? == some 48) && !(w == [48])) := by unfold zeroed; rw [e2]
    rw [ei, ez]
    by_cases hz : w.head? = some 48
    · constructor
      · intro hb
        have := num_zero (n := NumText.digitsVal w) (by rw [hb]; exact hz)
        rw [hb] at this
        rw [this]
        rfl
      · intro hb
        rw [hz] at hb
        have hw : w = [48] := by simpa using hb
        exact num_back w h3 hr (.inr hw)
    · constructor
      · intro _
        simp [hz]
      · intro _
        exact num_back w h3 hr (.inl hz)
/-- what str writes is read back -/
theorem intL_digits (i : Int) : NumText.AllDigits (sgn (intL i)).2 ∧ (sgn (intL i)).2 ≠ [] := by
  unfold intL
  split
  · exact ⟨TL.numL_digits _, TL.numL_ne _⟩
  · rcases sgn_cases (TL.numL i.natAbs) with ⟨r, e, _⟩ | ⟨_, e2⟩
    · exact absurd (show 45 ∈ TL.numL i.natAbs by rw [e]; exact List.mem_cons_self) (TL.numL_free (.inl (by decide)))
    · rw [e2]
      exact ⟨TL.numL_digits _, TL.numL_ne _⟩
theorem worth_intL (i : Int) : worth (intL i) = i := by
  unfold intL
  split
  · show -((NumText.digitsVal (TL.numL i.natAbs) : Nat) : Int) = i
    rw [TL.numL_val]
    omega
  · rcases sgn_cases (TL.numL i.natAbs) with ⟨r, e, _⟩ | ⟨_, e2⟩
    · exact absurd (show 45 ∈ TL.numL i.natAbs by rw [e]; exact List.mem_cons_self) (TL.numL_free (.inl (by decide)))
    · unfold worth
      rw [e2]
      show ((NumText.digitsVal (TL.numL i.natAbs) : Nat) : Int) = i
      rw [TL.numL_val]
      omega
theorem numO_intL {i : Int} (h : (sgn (intL i)).2.length ≤ 30) : numO (intL i) = some i := by
  obtain ⟨h1, h2⟩ := intL_digits i
  have hd : digOk (sgn (intL i)).2 = true := digOk_iff.mpr ⟨List.length_pos_iff.mpr h2, h, h1⟩
  have hz : zeroed (intL i) = false := (back_iff hd).mp (by rw [worth_intL])
  unfold numO
  rw [hd, hz, worth_intL]
  rfl
/-! ### texts of spans -/
theorem val_lt : ∀ r : List Nat, NumText.AllDigits r → NumText.digitsVal r < 10 ^ r.length := by
  refine snocInd (fun _ => by show 0 < 10 ^ 0; decide) ?_
  intro r c ih hd
  have hc := hd c (by simp)
  have h1 := ih fun x hx => hd x (List.mem_append_left _ hx)
  rw [val_snoc, List.length_append, List.length_singleton, Nat.pow_succ]
  omega
theorem log_lt {n : Nat} (h : n < 10 ^ 30) : n.log2 < 1920 := by
  by_cases h0 : n = 0
  · rw [h0]
    decide
  · exact Nat.lt_trans ((Nat.log2_lt h0).mpr (Nat.lt_trans h (show 10 ^ 30 < 2 ^ 100 by decide))) (by decide)
theorem worth_log {w : List Nat} (h : digOk (sgn w).2 = true) : (worth w).natAbs.log2 < 1920 := by
  obtain ⟨_, h2, h3⟩ := digOk_iff.mp h
  have h4 := val_lt _ h3
  have h5 : NumText.digitsVal (sgn w).2 < 10 ^ 30 := Nat.lt_of_lt_of_le h4 (Nat.pow_le_pow_right (by decide) h2)
  refine log_lt ?_
  unfold worth
  split <;> omega
theorem str_nil {w : Str} : (w == ("" : Str)) = (tl w).isEmpty := by
  cases h : tl w with
  | nil =>
    have : w = ("" : Str) := TL.ext_tl h
    rw [this]
    rfl
  | cons a r =>
    rw [beq_eq_false_iff_ne.mpr]
    · rfl
    · intro e
      rw [e] at h
      cases h
theorem minus_tl : TL.tl ("-" : Str) = [45] := by decide +kernel
theorem dots_tl : TL.tl (".." : Str) = [46, 46] := by decide +kernel
theorem rm_tl (w : Str) : tl (Txt.removeprefix w ("-" : Str)) = (sgn (tl w)).2 := by
  have hy : TL.tl ("-" : Str) ≠ [] := by rw [minus_tl]; simp
  have hat := TL.at_iff (x := w) hy 0
  rw [minus_tl, List.drop_zero] at hat
  have hl : ("-" : Str).length = 1 := by decide +kernel
  have hw := TL.len_tl w
  unfold Txt.removeprefix
  rcases sgn_cases (tl w) with ⟨r, e, e2⟩ | ⟨hh, e2⟩
  · have hp : TL.pre [45] (tl w) = true := by rw [e]; rfl
    have hs := (hat.mpr hp).2
    rw [if_pos hs, hl, e2]
    show tl (if w.length - 1 == w.length then w else PySem.Builtin.Str.strSub w 1 w.length) = r
    have hlen : w.length = r.length + 1 := by
      rw [hw]
      show (tl w).length = _
      rw [e]
      rfl
    rw [if_neg (by rw [beq_iff_eq]; omega)]
    show TL.tl _ = _
    rw [TL.tl_strSub_end]
    show (tl w).drop 1 = r
    rw [e]
    rfl
  · have hs : ¬ PySem.Builtin.Str.subAt w ("-" : Str) 0 = true := by
      intro hs
      cases hc : tl w with
      | nil =>
        have : w = ("" : Str) := TL.ext_tl hc
        rw [this] at hs
        revert hs
        decide +kernel
      | cons a r =>
        have hp := hat.mp ⟨by rw [hl, hw]; show 0 + 1 ≤ (tl w).length; rw [hc]; simp, hs⟩
        have hc' : TL.tl w = a :: r := hc
        rw [hc'] at hp
        rw [hc] at hh
        have h2 : ((a :: r).take 1 == [45]) = true := hp
        apply hh
        simpa using h2
    rw [if_neg hs, e2]
    rfl
theorem cut_head (x : Str) (i : Nat) (h : i ≤ x.length) : cutS x none (some (i : Int)) = PySem.Builtin.Str.strSub x 0 i := by
  refine TL.ext_tl ?_
  rw [TL.tl_strSub]
  unfold cutS
  rw [TL.tl_mk, HT.sIx_none, HT.sIx_nat, Nat.min_eq_left h]
theorem cut_tail (x : Str) (i : Nat) (h : i ≤ x.length) : cutS x (some (i : Int)) none = PySem.Builtin.Str.strSub x i x.length := by
  refine TL.ext_tl ?_
  rw [TL.tl_strSub]
  unfold cutS
  rw [TL.tl_mk, HT.sIx_none, HT.sIx_nat, Nat.min_eq_left h]
theorem cut_cases (x : Str) : (Txt.find x ("..") = -1 ∧ Txt.partition x ".." = (x, Str.empty, Str.empty)) ∨ ∃ i : Nat, i + 2 ≤ x.length ∧ Txt.find x ".." = (i : Int) ∧ Txt.partition x ".." = (cutS x none (some (i : Int)), (".." : Str), cutS x (some ((i : Int) + 2)) none) := by
  have hl : (".." : Str).length = 2 := by decide +kernel
  rcases PyProof.Rows.find_whole x ".." with ⟨e1, n1⟩ | ⟨i, e1, a1, n1⟩
  · rcases PyProof.Rows.partition_whole x ".." with ⟨e2, n2⟩ | ⟨j, e2, a2, n2⟩
    · exact .inl ⟨e1, e2⟩
    · exact absurd a2 (n1 j)
  · rcases PyProof.Rows.partition_whole x ".." with ⟨e2, n2⟩ | ⟨j, e2, a2, n2⟩
    · exact absurd a1 (n2 i)
    · have hij : i = j := by
        by_cases h1 : i < j
        · exact absurd a1 (n2 i h1)
        · by_cases h2 : j < i
          · exact absurd a2 (n1 j h2)
          · omega
      subst hij
      have hle := a1.1
      rw [hl] at hle e2
      refine .inr ⟨i, hle, e1, ?_⟩
      rw [e2, cut_head x i (by omega)]
      have := cut_tail x (i + 2) hle
      rw [Int.natCast_add] at this
      rw [← this]
      rfl
/-- a limit that a text is -/
def limT (w : Str) : Option (Option Int) := if (w == ("" : Str)) = true then some none else (numO (tl w)).map some
def pairO : Option (Option Int) → Option (Option Int) → Option Span
  | some a, some b => if okS (a, b) = true then some (a, b) else none
  | _, _ => none
/-- the span that a text is -/
def rdO (x : Str) : Option Span := if (Txt.find x ".." = -1) then none else pairO (limT (Txt.partition x "..").1) (limT (Txt.partition x "..").2.2)
def rdT : Option PyData → Option Span
  | some (.str x) => rdO x
  | _ => none
theorem numO_nil : numO (tl ("" : Str)) = none := by decide +kernel
/-- the number or None that the law takes -/
theorem limT_num {w : Str} {o : Option Int} (h : limT w = some o) : limV o = limV (numO (tl w)) := by
  unfold limT at h
  split at h
  · rename_i e
    have : w = ("" : Str) := by simpa using e
    cases h
    rw [this, numO_nil]
  · cases hn : numO (tl w) with
    | none => rw [hn] at h; cases h
    | some n => rw [hn] at h; cases h; rfl
theorem limT_none {w : Str} : limT w = none ↔ ((w == ("" : Str)) = false ∧ numO (tl w) = none) := by
  unfold limT
  cases e : w == ("" : Str) with
  | true => simp
  | false =>
    cases hn : numO (tl w) with
    | none => simp
    | some n => simp
def limS : Option Int → Str
  | none => ""
  | some i => Str.ofString (toString i)
def spS (s : Span) : Str := limS s.1 ++ ".." ++ limS s.2
def smO : Option Int → Prop
  | none => True
  | some i => i.natAbs < 10 ^ 30
theorem intL_len {i : Int} (h : i.natAbs < 10 ^ 30) : (sgn (intL i)).2.length ≤ 30 ∧ (intL i).length ≤ 31 := by
  have h1 := TL.numL_len (k := 30) (by decide) h
  unfold intL
  split
  · exact ⟨h1, by rw [List.length_cons]; omega⟩
  · rcases sgn_cases (TL.numL i.natAbs) with ⟨r, e, _⟩ | ⟨_, e2⟩
    · exact absurd (show 45 ∈ TL.numL i.natAbs by rw [e]; exact List.mem_cons_self) (TL.numL_free (.inl (by decide)))
    · rw [e2]
      exact ⟨h1, by omega⟩
theorem intL_mem {i : Int} {c : Nat} (h : c ∈ intL i) : c = 45 ∨ (48 ≤ c ∧ c ≤ 57) := by
  unfold intL at h
  split at h
  · rcases List.mem_cons.mp h with h | h
    · exact .inl h
    · exact .inr (TL.numL_digits _ c h)
  · exact .inr (TL.numL_digits _ c h)
theorem limS_tl (o : Option Int) : tl (limS o) = match o with | none => [] | some i => intL i := by
  cases o with
  | none => rfl
  | some i => exact tl_int i
theorem limS_ok {o : Option Int} (h : smO o) : sOk 31 (limS o) := by
  have e := limS_tl o
  cases o with
  | none => exact ⟨by decide, by decide +kernel⟩
  | some i =>
    refine ⟨?_, strOk_iff.mpr fun c hc => ?_⟩
    · rw [TL.len_tl]
      show (tl (limS (some i))).length ≤ 31
      rw [e]
      exact (intL_len h).2
    · have hc' : c ∈ tl (limS (some i)) := hc
      rw [e] at hc'
      rcases intL_mem hc' with q | q <;> omega
theorem limS_free (o : Option Int) : 46 ∉ tl (limS o) := by
  rw [limS_tl]
  cases o with
  | none => simp
  | some i =>
    intro h
    rcases intL_mem h with q | q <;> omega
theorem limS_back {o : Option Int} (h : smO o) : limT (limS o) = some o := by
  cases o with
  | none => rfl
  | some i =>
    have e : tl (limS (some i)) = intL i := tl_int i
    unfold limT
    rw [str_nil, e]
    have hd := intL_digits i
    have hn : intL i ≠ [] := fun z => by
      rw [z] at hd
      exact hd.2 rfl
    have hb : (intL i).isEmpty = false := by
      cases h2 : intL i with
      | nil => exact absurd h2 hn
      | cons a r => rfl
    rw [hb, numO_intL (intL_len h).1]
    rfl
theorem spS_cut (s : Span) : Txt.partition (spS s) ".." = (limS s.1, (".." : Str), limS s.2) := TL.partition_app (s := 46) (S := [46]) dots_tl (limS_free s.1)
theorem spS_back {s : Span} (o : okS s = true) (h1 : smO s.1) (h2 : smO s.2) : rdO (spS s) = some s := by
  unfold rdO
  rw [if_neg, spS_cut, limS_back h1, limS_back h2]
  · show (if okS (s.1, s.2) = true then some (s.1, s.2) else none) = some s
    rw [if_pos o]
  · intro e
    rcases cut_cases (spS s) with ⟨_, e2⟩ | ⟨i, _, e2, _⟩
    · rw [spS_cut] at e2
      have := congrArg (fun q => tl q.2.1) e2
      revert this
      show TL.tl (".." : Str) = [] → False
      rw [dots_tl]
      simp
    · rw [e] at e2
      omega
theorem spS_ok {s : Span} (h1 : smO s.1) (h2 : smO s.2) : sOk 64 (spS s) := by
  have := ((limS_ok h1).app (show sOk 2 (".." : Str) from ⟨by decide +kernel, by decide +kernel⟩)).app (limS_ok h2)
  exact this.mono (by decide)
theorem spS_join (s : Span) : Txt.join ".." [limS s.1, limS s.2] = spS s := by
  refine TL.ext_tl ?_
  rw [TL.join_eq, TL.tl_join]
  unfold spS
  rw [TL.tl_append, TL.tl_append, List.append_assoc]
  rfl
theorem emp_app (a : Str) : Str.empty ++ a = a := TL.ext_tl (by rw [TL.tl_append]; rfl)
theorem dig_is (c : Nat) : (!decide (([c] : List Nat) < [48]) && !decide (([57] : List Nat) < [c])) = isDig c := by
  unfold isDig
  rw [Bool.eq_iff_iff, Bool.and_eq_true, Bool.and_eq_true, decide_eq_true_iff, decide_eq_true_iff, Bool.not_eq_true', Bool.not_eq_true', decide_eq_false_iff_not, decide_eq_false_iff_not]
  simp only [List.cons_lt_cons_iff, List.not_lt_nil, and_false, or_false]
  omega
theorem dig_in (c : Nat) : decide (c ∈ ("0123456789" : Str).cps.toList) = isDig c := by
  have e : ("0123456789" : Str).cps.toList = [48, 49, 50, 51, 52, 53, 54, 55, 56, 57] := by decide +kernel
  rw [e]
  unfold isDig
  rw [Bool.eq_iff_iff, Bool.and_eq_true, decide_eq_true_iff, decide_eq_true_iff, decide_eq_true_iff]
  simp only [List.mem_cons, List.not_mem_nil, or_false]
  omega
theorem back_eq {w : Str} (h : digOk (sgn (tl w)).2 = true) : (Str.ofString (toString (worth (tl w))) == w) = !zeroed (tl w) := by
  have hb := back_iff h
  cases hz : zeroed (tl w) with
  | false =>
    have e : Str.ofString (toString (worth (tl w))) = w := TL.ext_tl (by
      show tl _ = tl _
      rw [tl_int]
      exact hb.mpr hz)
    rw [e]
    simp
  | true =>
    rw [beq_eq_false_iff_ne.mpr]
    · rfl
    · intro e
      have : intL (worth (tl w)) = tl w := by
        rw [← tl_int, e]
      have := hb.mp this
      rw [hz] at this
      cases this
theorem digOk_len {w : Str} (h : digOk (sgn (tl w)).2 = true) : w.length ≤ 31 := by
  obtain ⟨_, h2, _⟩ := digOk_iff.mp h
  have e : w.length = (tl w).length := TL.len_tl w
  rw [e]
  rcases sgn_cases (tl w) with ⟨r, e1, e2⟩ | ⟨_, e2⟩
  · rw [e2] at h2
    have h3 : r.length ≤ 30 := h2
    rw [e1, List.length_cons]
    omega
  · rw [e2] at h2
    have h3 : (tl w).length ≤ 30 := h2
    omega
/-- the cut, as the program makes it -/
theorem cut_parts (x : Str) (hx : x.length ≤ 1000) : ∃ low dots high : Str, Txt.partition x ".." = (low, dots, high) ∧ low.length ≤ 1000 ∧ high.length ≤ 1000 ∧ rdO x = if (dots == ("" : Str)) = true then none else pairO (limT low) (limT high) := by
  have he : (".." : Str) ≠ ("" : Str) := fun q => by
    have := congrArg TL.tl q
    rw [dots_tl] at this
    cases this
  rcases cut_cases x with ⟨e1, e2⟩ | ⟨i, hi, e1, e2⟩
  · refine ⟨_, _, _, e2, hx, by show 0 ≤ 1000; decide, ?_⟩
    unfold rdO
    rw [if_pos e1]
    rfl
  · refine ⟨_, _, _, e2, Nat.le_trans (cutS_length _ _ _) hx, Nat.le_trans (cutS_length _ _ _) hx, ?_⟩
    unfold rdO
    rw [if_neg (by rw [e1]; omega), e2, if_neg (by simpa using he)]
theorem minus_is (w : Str) : (cutS w none (some (1 : Int)) == ("-" : Str)) = (sgn (tl w)).1 := by
  have e : TL.tl (cutS w none (some (1 : Int))) = (tl w).take 1 := by
    unfold cutS
    rw [TL.tl_mk, HT.sIx_none, show (some (1 : Int)) = some ((1 : Nat) : Int) from rfl, HT.sIx_nat]
    show List.take (min 1 w.length - 0) (List.drop 0 (tl w)) = _
    have hw : w.length = (tl w).length := TL.len_tl w
    rw [List.drop_zero, hw]
    cases tl w with
    | nil => rfl
    | cons a r => simp
  rcases sgn_cases (tl w) with ⟨r, e1, e2⟩ | ⟨hh, e2⟩
  · rw [e2]
    have : cutS w none (some (1 : Int)) = ("-" : Str) := TL.ext_tl (by rw [e, e1, minus_tl]; rfl)
    rw [this]
    show (("-" : Str) == ("-" : Str)) = true
    decide +kernel
  · rw [e2]
    refine beq_eq_false_iff_ne.mpr fun q => hh ?_
    have := congrArg TL.tl q
    rw [e, minus_tl] at this
    cases h : tl w with
    | nil => rw [h] at this; cases this
    | cons a r =>
      rw [h] at this
      simpa using this
theorem cut1_tl (w : Str) (h : (sgn (tl w)).1 = true) : tl (cutS w (some (1 : Int)) none) = (sgn (tl w)).2 := by
  rcases sgn_cases (tl w) with ⟨r, e1, e2⟩ | ⟨hh, e2⟩
  · have hw : w.length = (tl w).length := TL.len_tl w
    have h1 : (1 : Nat) ≤ w.length := by rw [hw, e1]; simp
    have := cut_tail w 1 h1
    rw [show (1 : Int) = ((1 : Nat) : Int) from rfl, this, e2]
    show TL.tl _ = _
    rw [TL.tl_strSub_end]
    show (tl w).drop 1 = r
    rw [e1]
    rfl
  · rw [e2] at h
    cases h
theorem zero_tl : TL.tl ("0" : Str) = [48] := by decide +kernel
theorem zero_is (w : Str) : (w == ("0" : Str)) = (tl w == [48]) := by
  by_cases h : tl w = [48]
  · have : w = ("0" : Str) := TL.ext_tl (by rw [zero_tl]; exact h)
    rw [this]
    decide +kernel
  · rw [beq_eq_false_iff_ne.mpr h]
    refine beq_eq_false_iff_ne.mpr fun q => h ?_
    rw [q]
    exact zero_tl
theorem zeroed_is (w : Str) : zeroed (tl w) = ((sgn (tl w)).2.head? == some 48 && !(w == ("0" : Str))) := by
  rw [zero_is]
  rfl
theorem sign_is (c : Nat) : ((⟨#[c]⟩ : Str) == ("0" : Str)) = (some c == some 48) := by
  rw [zero_is]
  show ([c] == [48]) = _
  rw [Bool.eq_iff_iff, beq_iff_eq, beq_iff_eq]
  simp
/-- the places of the words that are no limits -/
def badK (a b : Option (Option Int)) (i : Nat) : List Int := (([((0 : Int), a), (1, b)].take i).filter fun q => q.2.isNone).map (·.1)
theorem badK_len (a b : Option (Option Int)) (i : Nat) : (badK a b i).length ≤ 2 := by
  unfold badK
  rw [List.length_map]
  refine Nat.le_trans (List.length_filter_le _ _) ?_
  rw [List.length_take]
  exact Nat.min_le_right _ _
theorem badK_some (a b : Option Int) : (badK (some a) (some b) 2).isEmpty = true := rfl
theorem badK_none {a b : Option (Option Int)} (h : a = none ∨ b = none) : (badK a b 2).isEmpty = false := by
  rcases h with rfl | rfl
  · rfl
  · cases a <;> rfl
theorem pairO_none {a b : Option (Option Int)} (h : a = none ∨ b = none) : pairO a b = none := by
  rcases h with rfl | rfl
  · rfl
  · cases a <;> rfl
/-! ### x in t, t a tuple, data of any depth -/
section
variable {X : Cx}
def rInT (K : PySem.W.Frag) : R2 := fun x y H Q => ∃ d ds, Dp K H x d ∧ Dp K H y (.tuple ds) ∧ SeqAt.shaped d = true ∧ SeqAt.shaped (.tuple ds) = true ∧ Q (.bl (ds.any fun z => PyData.eqv z d)) H
theorem op_inT (hu : X.A.units + 65 < cLine) : OpR X (compareOp .In) (rInT X.K) := by
  intro pins s σ H x y v u Q I rx ry h
  obtain ⟨d, ds, hd, he, sd, se, q⟩ := h
  obtain ⟨as, r1⟩ := Dp.reads I d x v hd rx
  obtain ⟨bs, r2⟩ := Dp.reads I (.tuple ds) y u he ry
  exact SeqAt.in_tuple_reads r2 r1 (SeqAt.canLay_of_shaped se) (SeqAt.canLay_of_shaped sd) (PyProof.Rows.room_in_shaped sd hu) ⟨.bl _, H, I, rfl, q⟩
end
/-! ### what stands written at the top: tuples of texts, dicts of such -/
def seqK (K : PySem.W.Frag) (a : Addr) : Option (List Value) := match K.lookup a with
  | some ⟨.type c, _, .seq its _, _⟩ => if (c == "tuple" && decide (its.size ≤ 1000)) = true then some its.toList else none
  | _ => none
def mapO {α β : Type} (f : α → Option β) : List α → Option (List β)
  | [] => some []
  | x :: r => (f x).bind fun y => (mapO f r).bind fun ys => some (y :: ys)
def datK (K : PySem.W.Frag) : Nat → Value → Option PyData
  | n, .str x _ => some (.str x)
  | n + 1, .ref a => (seqK K a).bind fun us => (mapO (datK K n) us).bind fun ds => some (.tuple ds)
  | _, _ => none
def nsD (K : PySem.W.Frag) (a : Addr) (x : Str) : Option PyData := match PySem.W.nsIn K a x with
  | some (some u) => datK K 4 u
  | _ => none
theorem seqK_ok {K : PySem.W.Frag} {a : Addr} {us : List Value} {xs : List V} (h : seqK K a = some us) (r : Vals xs us) (H : Hp) : SqT K H a xs := by
  unfold seqK at h
  split at h
  · rename_i c dd its n sl q
    split at h
    · rename_i z
      rw [Bool.and_eq_true] at z
      have e1 : c = "tuple" := of_decide_eq_true (by simpa using z.1)
      have e2 := of_decide_eq_true z.2
      have e3 : its.toList = us := Option.some.inj h
      subst e1 e3
      exact .inr ⟨_, its, n, q, rfl, rfl, Nat.le_trans e2 (by decide), r⟩
    · cases h
  · cases h
mutual
theorem datK_ok {K : PySem.W.Frag} : ∀ (n : Nat) {u : Value} {d : PyData}, datK K n u = some d → ∃ v, RelV v u ∧ ∀ H, Dp K H v d
  | 0, .str x t, d, h => by
    have e : PyData.str x = d := Option.some.inj (by simpa [datK] using h)
    subst e
    exact ⟨.str x, ⟨t, rfl⟩, fun H => .str x⟩
  | n + 1, .str x t, d, h => by
    have e : PyData.str x = d := Option.some.inj (by simpa [datK] using h)
    subst e
    exact ⟨.str x, ⟨t, rfl⟩, fun H => .str x⟩
  | n + 1, .ref a, d, h => by
    have h' : ((seqK K a).bind fun us => (mapO (datK K n) us).bind fun ds => some (.tuple ds)) = some d := by simpa [datK] using h
    cases e1 : seqK K a with
    | none => rw [e1] at h'; cases h'
    | some us =>
      rw [e1, Option.bind_some] at h'
      cases e2 : mapO (datK K n) us with
      | none => rw [e2] at h'; cases h'
      | some ds =>
        rw [e2, Option.bind_some] at h'
        have e3 : PyData.tuple ds = d := Option.some.inj h'
        subst e3
        obtain ⟨vs, r, q⟩ := datsK_ok n us e2
        exact ⟨.ref a, rfl, fun H => .tup (seqK_ok e1 r H) (q H)⟩
theorem datsK_ok {K : PySem.W.Frag} : ∀ (n : Nat) (us : List Value) {ds : List PyData}, mapO (datK K n) us = some ds → ∃ vs, Vals vs us ∧ ∀ H, DpAll K H vs ds
  | n, [], ds, h => by
    have e : [] = ds := Option.some.inj h
    subst e
    exact ⟨[], .nil, fun H => .nil⟩
  | n, u :: r, ds, h => by
    have h' : ((datK K n u).bind fun y => (mapO (datK K n) r).bind fun ys => some (y :: ys)) = some ds := h
    cases e1 : datK K n u with
    | none => rw [e1] at h'; cases h'
    | some d =>
      rw [e1, Option.bind_some] at h'
      cases e2 : mapO (datK K n) r with
      | none => rw [e2] at h'; cases h'
      | some es =>
        rw [e2, Option.bind_some] at h'
        have e3 : d :: es = ds := Option.some.inj h'
        subst e3
        obtain ⟨v, rv, qv⟩ := datK_ok n e1
        obtain ⟨vs, rvs, qvs⟩ := datsK_ok n r e2
        exact ⟨v :: vs, .cons rv rvs, fun H => .cons (qv H) (qvs H)⟩
end
/-- an item of a dict of the top -/
theorem nsD_ok {K : PySem.W.Frag} {w : World} {a : Addr} {tb : List (Str × PyData)} (l : ∃ es n, K.lookup a = some ⟨.type "dict", none, .dict es n, #[]⟩ ∧ PySem.W.KeysLit w.params es.toList) (h : tb.map (fun p => nsD K a p.1) = tb.map fun p => some p.2)
    {x : Str} {d : PyData} (m : (x, d) ∈ tb) : ∃ v, KDct K w a x v ∧ ∀ H, Dp K H v d := by
  have e : nsD K a x = some d := by
    have : ∀ {l : List (Str × PyData)}, l.map (fun p => nsD K a p.1) = l.map (fun p => some p.2) → (x, d) ∈ l → nsD K a x = some d := by
      intro l
      induction l with
      | nil => intro _ m; cases m
      | cons p r ih =>
        intro hl m
        rw [List.map_cons, List.map_cons] at hl
        injection hl with h1 h2
        rcases List.mem_cons.mp m with q | q
        · subst q; exact h1
        · exact ih h2 q
    exact this h m
  obtain ⟨es, n, hl, hk⟩ := l
  unfold nsD at e
  split at e
  · rename_i u q
    obtain ⟨v, rv, qv⟩ := datK_ok 4 e
    exact ⟨v, ⟨es, n, u, hl, hk, q, rv⟩, qv⟩
  · cases e
theorem relref {v : V} {a : Addr} (h : RelV v (.ref a)) : v = .ref a := by
  cases v with
  | ref b => cases h; rfl
  | _ => first | cases h; done | exact (by obtain ⟨_, h⟩ := h; exact absurd h (by simp))
theorem u65 {A : Around} {k : Nat} (hr : Room k A) : A.units + 65 < cLine := by
  have := hr.un
  omega
theorem dp_three {K : PySem.W.Frag} {H : Hp} {xs : List V} {ds : List PyData} (h : DpAll K H xs ds) (e : xs.length = 3) : ∃ x y z d e f, xs = [x, y, z] ∧ ds = [d, e, f] ∧ Dp K H x d ∧ Dp K H y e ∧ Dp K H z f := by
  match xs, ds, h, e with
  | [x, y, z], [d, e, f], .cons h1 (.cons h2 (.cons h3 .nil)), _ => exact ⟨x, y, z, d, e, f, rfl, rfl, h1, h2, h3⟩
/-! ### names drawn -/
/-- the items of l, in another order -/
def sp_mixed : Sp := fun vs H Q _ => ∃ (H0 : Hp) (p l : Addr) (n : Nat) (xs : List V), vs = [.ref p, .ref l] ∧ BoxIn H0 H p n ∧ H l = some (.lst xs) ∧ xs.length ≤ 100 ∧ n + xs.length < 1000000 ∧
  ∀ (q : Addr) (H' : Hp) (ys : List V), Same H0 H' → H0 q = none → q ≠ p → H' q = some (.lst ys) → ys.Perm xs → BoxIn H0 H' p (n + xs.length) → Q (.ref q) H'
/-- m names -/
def sp_names : Sp := fun vs H Q _ => ∃ (H0 : Hp) (p : Addr) (n m : Nat), vs = [.ref p, .int m] ∧ BoxIn H0 H p n ∧ m ≤ 13 ∧ n + 40 < 1000000 ∧
  ∀ (q : Addr) (H' : Hp) (ss : List Str), Same H0 H' → H0 q = none → q ≠ p → H' q = some (.lst (ss.map V.str)) → ss.length = m → (∀ s ∈ ss, sOk 16 s) → (∀ s ∈ ss, nameS s = true ∧ s ≠ ("pqz" : Str)) → ss.Nodup → BoxIn H0 H' p (n + 40) → Q (.ref q) H'
theorem strs_of {W : List Str} : ∀ {xs : List V}, (∀ y ∈ xs, ∃ s, s ∈ W ∧ y = V.str s) → ∃ ss : List Str, xs = ss.map V.str ∧ ∀ s ∈ ss, s ∈ W
  | [], _ => ⟨[], rfl, fun s h => by cases h⟩
  | x :: r, h => by
    obtain ⟨s, hs, rfl⟩ := h x List.mem_cons_self
    obtain ⟨ss, rfl, h2⟩ := strs_of (xs := r) fun y hy => h y (List.mem_cons_of_mem _ hy)
    refine ⟨s :: ss, rfl, fun y hy => ?_⟩
    rcases List.mem_cons.mp hy with rfl | q
    · exact hs
    · exact h2 y q
/-! ### the names drawn are names, all different -/
def nmC (stem : Str) (w c : Nat) : Str :=
  let nm : Str := if w = 0 then stem ++ ⟨#[c]⟩ else if w = 1 then (⟨#[c]⟩ : Str) ++ stem else ⟨#[c]⟩
  if nm = "table" then "tables" else nm
def stemsL : List Str := ["", "a", "tabl", "rest", "part", "zzzzzzz"]
theorem nmC_ok : ∀ stem ∈ stemsL, ∀ w ∈ List.range 3, ∀ c ∈ List.range 26, nameS (nmC stem w (97 + c)) = true ∧ nmC stem w (97 + c) ≠ ("pqz" : Str) := by decide +kernel
theorem nmC_ne : ∀ stem ∈ stemsL, ∀ w ∈ List.range 3, ∀ c ∈ List.range 26, ∀ d ∈ List.range 26, c ≠ d → nmC stem w (97 + c) ≠ nmC stem w (97 + d) ∧ nmC stem 0 (97 + c) ≠ nmC stem w (97 + d) := by decide +kernel
def nmS (stem : Str) (f st zw : Int) (i : Nat) : Str := nmC stem (if i = 0 then 0 else zw.toNat) (97 + ((f + st * (i : Int)) % 26).toNat)
theorem sign_ne {f st : Int} (hs : st ∈ ([1, 3, 5, 7, 9, 11] : List Int)) {i j : Nat} (hi : i < 14) (hj : j < 14) (h : i ≠ j) : ((f + st * (i : Int)) % 26).toNat ≠ ((f + st * (j : Int)) % 26).toNat := by
  simp only [List.mem_cons, List.not_mem_nil, or_false] at hs
  rcases hs with rfl | rfl | rfl | rfl | rfl | rfl
  all_goals omega
theorem sign_lt {f st : Int} {i : Nat} : ((f + st * (i : Int)) % 26).toNat ∈ List.range 26 := by
  rw [List.mem_range]
  omega
theorem nmS_ok {stem : Str} (hst : stem ∈ stemsL) {f st zw : Int} (h0 : 0 ≤ zw) (h1 : zw < 3) (i : Nat) : nameS (nmS stem f st zw i) = true ∧ nmS stem f st zw i ≠ ("pqz" : Str) := by
  refine nmC_ok stem hst _ ?_ _ sign_lt
  rw [List.mem_range]
  split <;> omega
theorem nmS_ne {stem : Str} (hst : stem ∈ stemsL) {f st zw : Int} (hs : st ∈ ([1, 3, 5, 7, 9, 11] : List Int)) (h0 : 0 ≤ zw) (h1 : zw < 3) {i j : Nat} (hi : i < 14) (hj : j < 14) (h : i < j) : nmS stem f st zw i ≠ nmS stem f st zw j := by
  have ne := sign_ne (f := f) hs hi hj (Nat.ne_of_lt h)
  have hw : zw.toNat ∈ List.range 3 := by rw [List.mem_range]; omega
  have hj0 : j ≠ 0 := by omega
  have k := nmC_ne stem hst _ hw _ (sign_lt (f := f) (st := st) (i := i)) _ (sign_lt (f := f) (st := st) (i := j)) ne
  unfold nmS
  rw [if_neg hj0]
  by_cases hi0 : i = 0
  · rw [if_pos hi0]
    exact k.2
  · rw [if_neg hi0]
    exact k.1
theorem nmS_nodup {stem : Str} (hst : stem ∈ stemsL) {f st zw : Int} (hs : st ∈ ([1, 3, 5, 7, 9, 11] : List Int)) (h0 : 0 ≤ zw) (h1 : zw < 3) {m : Nat} (hm : m ≤ 13) : ((List.range m).map (nmS stem f st zw)).Nodup := by
  unfold List.Nodup
  rw [List.pairwise_map]
  refine List.Pairwise.imp_of_mem (fun {a b} ha hb hlt => ?_) (List.pairwise_lt_range (n := m))
  have ha := List.mem_range.mp ha
  have hb := List.mem_range.mp hb
  exact nmS_ne hst hs h0 h1 (by omega) (by omega) hlt
def wordsL : List Str := ["begin", "empty", "rest", "step", "end", "look", "old", "new", "put", "part", "move", "split", "lock"]
theorem wordsL_ok : (∀ s ∈ wordsL, nameS s = true ∧ s ≠ ("pqz" : Str)) ∧ wordsL.Nodup := by
  constructor
  · decide +kernel
  · decide +kernel
theorem nodup_of_map {ss : List Str} (h : (ss.map V.str).Nodup) : ss.Nodup := by
  unfold List.Nodup at h ⊢
  rw [List.pairwise_map] at h
  exact h.imp fun k e => k (by rw [e])
theorem nodup_map {ss : List Str} (h : ss.Nodup) : (ss.map V.str).Nodup := by
  unfold List.Nodup at h ⊢
  rw [List.pairwise_map]
  exact h.imp fun k e => k (by injection e)
/-- the sign at a place, as a number -/
theorem letter_at {z : Int} (h0 : 0 ≤ z) (h1 : z < 26) {ch : Nat} (h : atI ("abcdefghijklmnopqrstuvwxyz" : Str).cps.toList z = some ch) : ch = 97 + z.toNat := by
  have all : ∀ n ∈ List.range 26, ("abcdefghijklmnopqrstuvwxyz" : Str).cps.toList[n]? = some (97 + n) := by decide +kernel
  obtain ⟨n, rfl⟩ := Int.eq_ofNat_of_zero_le h0
  have := all n (List.mem_range.mpr (by omega))
  rw [atI_nat this] at h
  injection h with h
  rw [← h]
  rfl
/-- the name at a place of the three forms -/
theorem form_at {a b c : Str} {z : Int} (h0 : 0 ≤ z) (h1 : z < 3) {s : Str} (h : atI [V.str a, .str b, .str c] z = some (.str s)) : s = if z.toNat = 0 then a else if z.toNat = 1 then b else c := by
  obtain ⟨n, rfl⟩ := Int.eq_ofNat_of_zero_le h0
  have : n = 0 ∨ n = 1 ∨ n = 2 := by omega
  rcases this with rfl | rfl | rfl
  all_goals
    cases h
    rfl
/-! ### rules that more than one law wants -/
def filtG (f : PyData → Bool) : List V → List PyData → List V
  | x :: xs, d :: ds => if f d = true then x :: filtG f xs ds else filtG f xs ds
  | _, _ => []
theorem filtG_len (f : PyData → Bool) : ∀ (xs : List V) (ds : List PyData), (filtG f xs ds).length ≤ xs.length
  | [], _ => by simp [filtG]
  | _ :: _, [] => by simp [filtG]
  | x :: xs, d :: ds => by
    have ih := filtG_len f xs ds
    simp only [filtG]
    split
    · simp only [List.length_cons]
      omega
    · simp only [List.length_cons]
      omega
theorem filtG_step {f : PyData → Bool} : ∀ {xs : List V} {ds : List PyData} {i : Nat} {x : V} {d : PyData}, xs[i]? = some x → ds[i]? = some d → filtG f (xs.take (i + 1)) (ds.take (i + 1)) = if f d = true then filtG f (xs.take i) (ds.take i) ++ [x] else filtG f (xs.take i) (ds.take i)
  | [], _, _, _, _, h, _ => by simp at h
  | _ :: _, [], _, _, _, _, h => by simp at h
  | y :: ys, e :: es, 0, x, d, h1, h2 => by
    cases h1
    cases h2
    simp [filtG]
  | y :: ys, e :: es, i + 1, x, d, h1, h2 => by
    have ih := filtG_step (f := f) (xs := ys) (ds := es) (i := i) (x := x) (d := d) (by simpa using h1) (by simpa using h2)
    simp only [List.take_succ_cons, filtG, ih]
    split <;> split <;> simp
theorem filtG_dp {K : PySem.W.Frag} {H : Hp} {f : PyData → Bool} : ∀ {xs : List V} {ds : List PyData}, DpAll K H xs ds → DpAll K H (filtG f xs ds) (ds.filter f)
  | _, _, .nil => by simp [filtG]; exact .nil
  | _, _, .cons (v := v) (d := d) a b => by
    have ih := filtG_dp (f := f) b
    simp only [filtG]
    cases h : f d with
    | true =>
      simp [h]
      exact .cons a ih
    | false =>
      simp [h]
      exact ih
theorem range_filter_step (c : Nat → Bool) (i : Nat) : (List.range (i + 1)).filter c = if c i = true then (List.range i).filter c ++ [i] else (List.range i).filter c := by
  rw [List.range_succ, List.filter_append]
  cases h : c i with
  | true => simp [h]
  | false => simp [h]
theorem dpAll_take {K : PySem.W.Frag} {H : Hp} : ∀ {xs : List V} {ds : List PyData} (n : Nat), DpAll K H xs ds → DpAll K H (xs.take n) (ds.take n)
  | _, _, 0, _ => .nil
  | _, _, _ + 1, .nil => .nil
  | _, _, n + 1, .cons a b => .cons a (dpAll_take n b)
theorem dpAll_drop {K : PySem.W.Frag} {H : Hp} : ∀ {xs : List V} {ds : List PyData} (n : Nat), DpAll K H xs ds → DpAll K H (xs.drop n) (ds.drop n)
  | _, _, 0, h => h
  | _, _, _ + 1, .nil => .nil
  | _, _, n + 1, .cons _ b => dpAll_drop n b
theorem dpAll_app {K : PySem.W.Frag} {H : Hp} : ∀ {xs ys : List V} {ds es : List PyData}, DpAll K H xs ds → DpAll K H ys es → DpAll K H (xs ++ ys) (ds ++ es)
  | _, _, _, _, .nil, h => h
  | _, _, _, _, .cons a b, h => .cons a (dpAll_app b h)
theorem cut_takeV (ys : List V) {i : Nat} (h : i ≤ ys.length) : cutV ys none (some (i : Int)) = ys.take i := by
  unfold cutV
  rw [HT.sIx_none, HT.sIx_nat, List.drop_zero, Nat.sub_zero, Nat.min_eq_left h]
theorem cut_dropV (ys : List V) {i : Nat} (h : i ≤ ys.length) : cutV ys (some (i : Int)) none = ys.drop i := by
  unfold cutV
  rw [HT.sIx_none, HT.sIx_nat, Nat.min_eq_left h]
  exact List.take_of_length_le (by rw [List.length_drop]; exact Nat.le_refl _)
/-- a datum of three deep at most, its texts short -/
theorem in_strs (k : Str) (ss : List Str) : inV (.str k) (ss.map V.str) = decide (k ∈ ss) := by
  unfold inV
  rw [Bool.eq_iff_iff, List.any_eq_true, decide_eq_true_iff]
  constructor
  · rintro ⟨z, hz, e⟩
    obtain ⟨t, ht, rfl⟩ := List.mem_map.mp hz
    have : (t == k) = true := e
    rw [← eq_of_beq this]
    exact ht
  · intro h
    exact ⟨_, List.mem_map.mpr ⟨k, h, rfl⟩, by show (k == k) = true; simp⟩
theorem flat_strs (ss : List Str) : (ss.map V.str).all flatV = true := by
  rw [List.all_eq_true]
  intro x hx
  obtain ⟨s, _, rfl⟩ := List.mem_map.mp hx
  rfl
theorem dpAll_ints {K : PySem.W.Frag} {H : Hp} : ∀ ns : List Int, DpAll K H (ns.map V.int) (ns.map PyData.int)
  | [] => .nil
  | n :: r => .cons (.int n) (dpAll_ints r)
theorem ints_shaped (ns : List Int) : SeqAt.shaped (.list (ns.map PyData.int)) = true := shaped_list (n := 0) (by decide) fun d hd => by
  obtain ⟨i, _, rfl⟩ := List.mem_map.mp hd
  exact ⟨rfl, by simp [PyData.depth]⟩
theorem sure2 {w : Str} {v : V} (h : sureV v = true) : ([.str w, v] : List V).all sureV = true := by
  show (sureV (.str w) && (sureV v && true)) = true
  rw [h]
  rfl
/-! ### objects of own classes: ==, str, made within a try, dicts of data -/
section
open PySem.Spec PySem.Calls PyProof.Rows
section
variable {X : Cx} {CX : CXT} {k : Nat} {f C : Addr} {fd : FuncData} {ps : List Str} {sp : Sp}
/-- x == y by the own __eq__ of x, whatever y is -/
def rEqI (K : PySem.W.Frag) (C : Addr) (sp : Sp) (E : XK) : R2 := fun x y H Q => ∃ (a dx : Addr) (fs : List (Str × V)) (tb : Value), x = .ref a ∧ H a = some (.ins C dx fs) ∧ TyX K H y tb ∧ PySem.W.notFirst K C tb = true ∧ sp [x, y] H Q E
theorem op_eqI {E : XK} (F : FnOk X.prog X.w X.K X.mg X.base CX k f fd ps sp) (hr : Room k X.A) (hb : Binds X.K fd ps []) (hs : PySem.W.findIn X.K (.ref C) "__eq__" = some (some (.ref f))) (hf : PySem.W.isFn X.K (.ref f) = true) (hx : Passes CX X E) : OpR X (compareOp .Eq) (rEqI X.K C sp E) := by
  intro pins s σ H x y v u Q I rx ry h
  obtain ⟨a, dx, fs, tb, rfl, ha, ty, hn, q⟩ := h
  cases (show v = Value.ref a from rx)
  obtain ⟨mA, J, _⟩ := ins_get I.hok ha
  obtain ⟨od, J, _⟩ := J.look
  obtain ⟨Pt, kx, pt, _⟩ := kit_of I ry ty
  obtain ⟨m, hF⟩ := I.fr
  refine PySem.W.cmp_K (op := .Eq) (tb := tb) hr.units0 hF I.ok.mod.kin J (kx.ty _ _ I.kIn pt) hn hs hf ?_
  refine wpAny_mono (run_fn (us := [.ref a, u]) (vs := [.ref a, y]) (ds := []) (dvs := []) F hr hb .nil hx I (.cons rfl (.cons ry .nil)) (by simpa using q)) (fun w s' z => ?_) fun _ _ x => x
  obtain ⟨z', H', I', rz, qz⟩ := z
  exact SlX.cmpback rz ⟨z', H', I', rz, qz⟩
/-- str(x) by the own __str__ of x -/
def rStrI (C : Addr) (sp : Sp) (E : XK) : List V → Hp → VK → Prop := fun xs H Q => ∃ (a dx : Addr) (fs : List (Str × V)), xs = [.ref a] ∧ H a = some (.ins C dx fs) ∧ sp [.ref a] H (fun z H' => ∃ t, z = .str t ∧ Q z H') E
theorem call_strI {E : XK} (F : FnOk X.prog X.w X.K X.mg X.base CX k f fd ps sp) (hr : Room (k + 2) X.A) (hb : Binds X.K fd ps []) (hs : PySem.W.findIn X.K (.ref C) "__str__" = some (some (.ref f))) (hf : PySem.W.isFn X.K (.ref f) = true) (hx : Passes CX X E) : CallR X (.type "str") (rStrI C sp E) := by
  intro pins s σ H xs us Q I r h
  obtain ⟨a, dx, fs, rfl, ha, q⟩ := h
  obtain ⟨u, rfl, ru⟩ := r.one
  cases (show u = Value.ref a from ru)
  obtain ⟨mA, J, _⟩ := ins_get I.hok ha
  obtain ⟨od, J, _⟩ := J.look
  have hr2 : Room k X.A.in1.in1 := (show Room (k + 1) X.A.in1 from Room.in1 hr).in1
  have hl := F.len _ _ _ _ q
  refine PySem.W.kso_call hr2.units0 I.kIn J hs hf (wpAny_call (codeAny_mono (F.run X.A.in1.in1 X.stack s H ⟨[.ref a], []⟩ [.ref a] [.ref a] _ E hr2 I.env0.in1.in1 (by
    have := hb s [.ref a] I.kIn (by simpa using hl)
    simpa using this) (.cons rfl .nil) q) fun r s' hq => ?_))
  cases r with
  | error e => exact hx pins σ H s e s' I hq
  | ok fl =>
    cases fl with
    | ret w =>
      obtain ⟨z, H', I', rz, t, ez, qz⟩ := I.after hq
      subst ez
      obtain ⟨tk, e⟩ := rz
      cases e
      exact ⟨.str t, H', I', ⟨tk, rfl⟩, qz⟩
    | next => exact False.elim hq
    | brk => exact False.elim hq
    | cont => exact False.elim hq
end
section
variable {X : Cx} {CX : CXT} {k : Nat} {f C : Addr} {fd : FuncData} {ps : List Str} {sp : Sp} {x : Str} {p pos : Pos} {e : Expr} {es : List Expr} {t : TA}
theorem run_makeS {E : L2.St → XK} {pins : List (Addr × Obj)} {σ : L2.St} {H : Hp} {s : Shared} {Q : VK} {us : List Value} {vs : List V} (M : Mk X.K C f) (F : FnOk X.prog X.w X.K X.mg X.base CX k f fd ps sp) (hr : Room (k + 1) X.A) (hb : Binds X.K fd ps [])
    (hx : PassesAt CX X σ (E σ)) (I : Inv X pins σ H s) (r : Vals vs us)
    (h : ∀ x dx, H x = none → H dx = none → dx ≠ x → sp (.ref x :: vs) (upd (upd H dx (.own x)) x (.ins C dx [])) (fun v H2 => v = .non ∧ Q (.ref x) H2) (E σ)) :
    wpAny (model X.prog X.w) X.A (call (.ref C) us) (EP X pins σ Q) X.xe s := by
  have hq := h (s.heap.objs.size + 1) s.heap.objs.size (I.hok.fresh (Nat.le_succ _)) (I.hok.fresh (Nat.le_refl _)) (Nat.ne_of_lt (Nat.lt_succ_self _))
  have I2 := Inv.made (C := C) I
  have r2 : Vals (V.ref (s.heap.objs.size + 1) :: vs) (Value.ref (s.heap.objs.size + 1) :: us) := .cons rfl r
  have hl : (Value.ref (s.heap.objs.size + 1) :: us).length = ps.length := by
    have e := r2.length
    rw [F.len _ _ _ _ hq] at e
    exact e.symm
  have bd := hb _ (Value.ref (s.heap.objs.size + 1) :: us) I2.kIn (by rw [List.append_nil]; exact hl)
  rw [List.append_nil] at bd
  refine wpAny_call (make_map (f := f) I.kIn M.makes M.init (beq_iff_eq.mp M.fn) (codeAny_mono (F.run _ X.stack _ _ ⟨Value.ref (s.heap.objs.size + 1) :: us, []⟩ (Value.ref (s.heap.objs.size + 1) :: us) _ _ (E σ) (hr.make C us [])
    (I2.env0.make C us []) bd r2 hq) fun r s' hq' => ?_))
  cases r with
  | error e => exact hx pins _ _ e s' I2 hq'
  | ok fl =>
    cases fl with
    | ret u =>
      obtain ⟨v, H', I3, rv, ev, q3⟩ := I2.after hq'
      subst ev
      exact ⟨rv, ⟨V.ref (s.heap.objs.size + 1), H', I3, rfl, q3⟩⟩
    | next => exact False.elim hq'
    | brk => exact False.elim hq'
    | cont => exact False.elim hq'
/-- C(..), whose __init__ may raise, within a try -/
def tMakeS (C : Addr) (sp : Sp) (E : L2.St → XK) (t : TA) : TE := fun σ H Q => t σ H fun vs H1 => ∀ x dx, H1 x = none → H1 dx = none → dx ≠ x → sp (.ref x :: vs) (upd (upd H1 dx (.own x)) x (.ins C dx [])) (fun v H2 => v = .non ∧ Q (.ref x) H2) (E σ)
theorem pe_makeS {E : L2.St → XK} (M : Mk X.K C f) (F : FnOk X.prog X.w X.K X.mg X.base CX k f fd ps sp) (hr : Room (k + 1) X.A) (hg : Gl X x) (hm : X.mg x = some (.ref C)) (hb : Binds X.K fd ps []) (hx : ∀ σ, PassesAt CX X σ (E σ))
    (ha : PA X (e :: es) t) (hdb : (x == ("__debug__" : Str)) = false := by decide) (he : starEach (e :: es) X.env = (false, eval e X.env) :: starEach es X.env := by rfl) (hpl : (backTo pos (starEach es X.env)).any (·.1) = false := by rfl) :
    PE X (.Call (.Name x p) (e :: es) [] pos) (tMakeS C sp E t) := by
  refine ⟨fun pins s σ H Q I h => ?_⟩
  refine wpAny_Call_Name_kw (ld_glob I hg hm ?_ hdb)
  refine PySem.W.callWith_K (h₀ := X.base) I.ok.mod.kin M.kp (thn (ha.run pos pins s σ H _ I h) fun us s1 ⟨vs, H1, I1, r, q⟩ => ⟨I1.kIn, ?_⟩) he hpl
  exact run_makeS M F hr hb (hx σ) I1 r q
/-- C(k = v, ..) -/
def tMakeKw (C : Addr) (m : Nat) (sp : Sp) (g : List V → List V → List V) (E : L2.St → XK) (tk : TA) : TE := fun σ H Q => tk σ H fun zs H2 => zs.length = m ∧ ∀ x dx, H2 x = none → H2 dx = none → dx ≠ x → sp (g [.ref x] zs) (upd (upd H2 dx (.own x)) x (.ins C dx [])) (fun v H3 => v = .non ∧ Q (.ref x) H3) (E σ)
theorem run_makeKw {E : L2.St → XK} {ks : List Str} {g : {α : Type} → List α → List α → List α} {pins : List (Addr × Obj)} {σ : L2.St} {H : Hp} {s : Shared} {Q : VK} {ws : List Value} {zs : List V} (M : Mk X.K C f) (F : FnOk X.prog X.w X.K X.mg X.base CX k f fd ps sp) (hr : Room (k + 1) X.A)
    (bnd : KwB X.K fd ps 1 ks g) (hx : PassesAt CX X σ (E σ)) (I : Inv X pins σ H s) (rz : Vals zs ws) (l2 : zs.length = ks.length)
    (h : ∀ x dx, H x = none → H dx = none → dx ≠ x → sp (g [.ref x] zs) (upd (upd H dx (.own x)) x (.ins C dx [])) (fun v H2 => v = .non ∧ Q (.ref x) H2) (E σ)) :
    wpAny (model X.prog X.w) X.A (call (.ref C) [] (ks.zip ws)) (EP X pins σ Q) X.xe s := by
  have hq := h (s.heap.objs.size + 1) s.heap.objs.size (I.hok.fresh (Nat.le_succ _)) (I.hok.fresh (Nat.le_refl _)) (Nat.ne_of_lt (Nat.lt_succ_self _))
  have I2 := Inv.made (C := C) I
  have r1 : Vals [V.ref (s.heap.objs.size + 1)] [Value.ref (s.heap.objs.size + 1)] := .cons rfl .nil
  have r2 := bnd.rel (vs := [V.ref (s.heap.objs.size + 1)]) rfl l2 r1 rz
  refine wpAny_call (make_map (f := f) I.kIn M.makes M.init (beq_iff_eq.mp M.fn) (codeAny_mono (F.run _ X.stack _ _ ⟨[Value.ref (s.heap.objs.size + 1)], ks.zip ws⟩ (g [Value.ref (s.heap.objs.size + 1)] ws) _ _ (E σ) (hr.make C [] (ks.zip ws))
    (I2.env0.make C [] (ks.zip ws)) (.of_eq (bnd.to [Value.ref (s.heap.objs.size + 1)] ws rfl (rz.length.symm.trans l2))) r2 hq) fun r s' hq' => ?_))
  cases r with
  | error e => exact hx pins _ _ e s' I2 hq'
  | ok fl =>
    cases fl with
    | ret u =>
      obtain ⟨v, H', I3, rv, ev, q3⟩ := I2.after hq'
      subst ev
      exact ⟨rv, ⟨V.ref (s.heap.objs.size + 1), H', I3, rfl, q3⟩⟩
    | next => exact False.elim hq'
    | brk => exact False.elim hq'
    | cont => exact False.elim hq'
theorem pe_makeKw0 {E : L2.St → XK} {ks : List Str} {g : {α : Type} → List α → List α → List α} {kws : List Keyword} {tk : TA} (M : Mk X.K C f) (F : FnOk X.prog X.w X.K X.mg X.base CX k f fd ps sp) (room : Room (k + 1) X.A) (gl : Gl X x) (m : X.mg x = some (.ref C)) (bnd : KwB X.K fd ps 1 ks g) (px : ∀ σ, PassesAt CX X σ (E σ)) (kw : PK X kws tk)
    (h1 : (backToKw pos (keywordEach kws X.env)).all (·.1.isSome) = true := by rfl) (h2 : (backToKw pos (keywordEach kws X.env)).filterMap (·.1) = ks := by rfl) (h3 : (x == ("__debug__" : Str)) = false := by decide)
    (h4 : ((backTo pos (starEach [] X.env)).any (·.1) || (backToKw pos (keywordEach kws X.env)).any (·.1.isNone)) = false := by rfl) : PE X (.Call (.Name x p) [] kws pos) (tMakeKw C ks.length sp g E tk) := by
  constructor
  intro pins s σ H Q I h
  apply wpAny_Call_Name_kw
  refine ld_glob I gl m ?_ h3
  refine PySem.W.callWith_KW0 (h₀ := X.base) I.ok.mod.kin M.kp h1 ?_ h4
  refine thn (kw.run pos pins s σ H _ I h) fun ws s2 got => ?_
  obtain ⟨zs, H2, I2, rz, l2, q2⟩ := got
  rw [h2]
  exact ⟨I2.kIn, run_makeKw M F room bnd (px σ) I2 rz l2 q2⟩
end
/-- the entries of a dict as data -/
inductive Ents (K : PySem.W.Frag) (H : Hp) : List (Key × V) → List (Key × PyData) → Prop
  | nil : Ents K H [] []
  | cons {k : Key} {v : V} {d : PyData} {r : List (Key × V)} {rd : List (Key × PyData)} : Dp K H v d → SeqAt.shaped d = true → Ents K H r rd → Ents K H ((k, v) :: r) ((k, d) :: rd)
theorem Ents.mono {K : PySem.W.Frag} {H H' : Hp} (s : Same H H') {ks : List (Key × V)} {ds : List (Key × PyData)} (h : Ents K H ks ds) : Ents K H' ks ds := by
  induction h with
  | nil => exact .nil
  | cons a b _ ih => exact .cons (dp_mono s a) b ih
def findD : List (Key × PyData) → Key → Option PyData
  | [], _ => none
  | (j, d) :: r, k => if j = k then some d else findD r k
theorem Ents.at_ {K : PySem.W.Frag} {H : Hp} {ks : List (Key × V)} {ds : List (Key × PyData)} (h : Ents K H ks ds) (k : Key) : (valV ks k = none ∧ findD ds k = none) ∨ ∃ v d, valV ks k = some v ∧ findD ds k = some d ∧ Dp K H v d ∧ SeqAt.shaped d = true := by
  induction h with
  | nil => exact .inl ⟨rfl, rfl⟩
  | @cons j v d r rd a b c ih =>
    by_cases e : j = k
    · exact .inr ⟨v, d, valV_pos e, if_pos e, a, b⟩
    · rw [valV_neg (p := (j, v)) e, show findD ((j, d) :: rd) k = findD rd k from if_neg e]
      exact ih
theorem Ents.len {K : PySem.W.Frag} {H : Hp} {ks : List (Key × V)} {ds : List (Key × PyData)} (h : Ents K H ks ds) : ks.length = ds.length := by
  induction h with
  | nil => rfl
  | cons a b _ ih => exact congrArg (· + 1) ih
def entsEq (dk dl : List (Key × PyData)) : Bool := dk.all fun p => match findD dl p.1 with
  | some e => PyData.eqv p.2 e
  | none => false
section
variable {X : Cx} {pins : List (Addr × Obj)} {σ : L2.St} {H : Hp} {s : Shared}
theorem ents_hits (I : Inv X pins σ H s) (hu : X.A.units + 65 < cLine) {ls : List (Key × V)} {dl : List (Key × PyData)} (el : Ents X.K H ls dl) {vb : List (Key × Value)} (rb : KV ls vb) {ks : List (Key × V)} {dk : List (Key × PyData)} (ek : Ents X.K H ks dk) :
    ∀ {va : List (Key × Value)}, KV ks va → PySem.W.KeqHitsP X.prog X.w X.A.in1 s vb va (entsEq dk dl) := by
  induction ek with
  | nil =>
    intro va ra
    cases ra
    exact .nil
  | @cons k v d r rd a b c ih =>
    intro va ra
    cases ra with
    | @cons p q ps qs h t =>
      obtain ⟨h1, h2⟩ := h
      obtain ⟨key, u⟩ := q
      have h1 : k = key := h1
      subst h1
      have rr : RelO (valV ls k) (valueAt vb k) := rb.val k
      rcases el.at_ k with ⟨e1, e2⟩ | ⟨y, e, e1, e2, de, se⟩
      · rw [e1] at rr
        have hn : valueAt vb k = none := by
          cases hv : valueAt vb k with
          | none => rfl
          | some z =>
            rw [hv] at rr
            exact rr.elim
        have ee : entsEq ((k, d) :: rd) dl = false := by
          unfold entsEq
          rw [List.all_cons, e2]
          rfl
        rw [ee]
        exact .miss hn
      · rw [e1] at rr
        obtain ⟨z, hz, rz⟩ := rr.some_of
        have ee : entsEq ((k, d) :: rd) dl = (PyData.eqv d e && entsEq rd dl) := by
          unfold entsEq
          rw [List.all_cons, e2]
        rw [ee]
        obtain ⟨as, r1⟩ := Dp.reads I d v u a h2
        obtain ⟨bs, r2⟩ := Dp.reads I e y z de rz
        have s1 := shaped_iff.mp b
        have s2 := shaped_iff.mp se
        refine .hit hz (SeqAt.EqAt.eqP (SeqAt.eqAt_reads d e X.A.in1 s u z as bs r1 r2 s1.1 s2.1 ?_)) (ih t)
        have : X.A.in1.units = X.A.units + 1 := rfl
        rw [this]
        have := s1.2
        omega
/-- two dicts whose values are data -/
def rEqDD (K : PySem.W.Frag) : R2 := fun x y H Q => ∃ (a b : Addr) (ks ls : List (Key × V)) (dk dl : List (Key × PyData)), x = .ref a ∧ y = .ref b ∧ H a = some (.dK ks) ∧ H b = some (.dK ls) ∧ Ents K H ks dk ∧ Ents K H ls dl ∧ Q (.bl (dk.length == dl.length && entsEq dk dl)) H
end
theorem op_eqDD {X : Cx} (hu : X.A.units + 65 < cLine) : OpR X (compareOp .Eq) (rEqDD X.K) := by
  intro pins s σ H x y v u Q I rx ry h
  obtain ⟨a, b, ks, ls, dk, dl, rfl, rfl, ea, eb, ek, el, q⟩ := h
  cases (show v = Value.ref a from rx)
  cases (show u = Value.ref b from ry)
  obtain ⟨_, ya, va, ra, da⟩ := (show ObjOk X.prog X.w H s.heap a (.dK ks) from I.hok a _ ea)
  obtain ⟨_, yb, vb, rb, db⟩ := (show ObjOk X.prog X.w H s.heap b (.dK ls) from I.hok b _ eb)
  refine PySem.W.rcP_dicts (knd := mixKind X.prog X.w) (r := entsEq dk dl) ya yb da db (by omega) (fun _ => ents_hits I hu el rb ek ra) _ _ ?_
  have e1 : va.length = dk.length := by rw [← ra.length]; exact ek.len
  have e2 : vb.length = dl.length := by rw [← rb.length]; exact el.len
  rw [e1, e2]
  exact ⟨.bl _, H, I, rfl, q⟩
end
/-- a dict comprehension over what is walked -/
theorem dc_it {J : It} {n : Nat} {G : Hp → Prop} {Y : Nat → Hp → V → Hp → Prop} (w : Walk J n G Y) {g : TG} {tt : TT} {tk tv : TE} {vs : List Nat} {σ : L2.St} {H1 : Hp} {D : Addr} {Qd : Hp → Prop} (Pv : Nat → Hp → Prop) (h0 : Pv 0 (upd H1 D (.dK []))) (hG : ∀ i H, i ≤ n → Pv i H → G H)
    (hs : ∀ i x H H', i < n → Pv i H → Y i H x H' → g x (wipe σ vs) H' fun σ2 H2 => wipe σ2 vs = wipe σ vs ∧ tt σ2 H2 fun b H3 =>
      if b = true then tk σ2 H3 fun y H4 => tv σ2 H4 fun z H5 => ∃ kvs k, y = kV k ∧ H5 D = some (.dK kvs) ∧ kvs.length < sizeLine ∧ Pv (i + 1) (upd H5 D (.dK (putK kvs k z))) else Pv (i + 1) H3) (hd : ∀ H, Pv n H → Qd H) :
    ∃ W : Nat → Nat → Hp → Prop, (∃ m, W 0 m (upd H1 D (.dK []))) ∧ ∀ i m H, W i m H →
      (J.stop i H ∧ Qd H) ∨ (J.go i H ∧ ∃ Nx : Hp → Prop, (∀ H', Nx H' → ∃ m', m' < m ∧ W (i + 1) m' H') ∧ ∀ x H', J.yld i H x H' → g x (wipe σ vs) H' fun σ2 H2 => wipe σ2 vs = wipe σ vs ∧ tt σ2 H2 fun b H3 =>
        if b = true then tk σ2 H3 fun y H4 => tv σ2 H4 fun z H5 => ∃ kvs k, y = kV k ∧ H5 D = some (.dK kvs) ∧ kvs.length < sizeLine ∧ Nx (upd H5 D (.dK (putK kvs k z))) else Nx H3) := by
  refine ⟨fun i m H => m = n - i ∧ i ≤ n ∧ Pv i H, ⟨n, by simp, Nat.zero_le _, h0⟩, ?_⟩
  rintro i m H ⟨rfl, hi, p⟩
  have q := hG i H hi p
  by_cases hlt : i < n
  · exact .inr ⟨w.goes i H hlt q, Pv (i + 1), fun H' p' => ⟨n - (i + 1), by omega, rfl, hlt, p'⟩, fun x H' y => hs i x H H' hlt p (w.yields i H x H' hlt q y)⟩
  · have e : i = n := by omega
    subst e
    exact .inl ⟨w.stops H q, hd H p⟩
/-- what a join asks, within a comprehension too -/
def rJoinK (K : PySem.W.Frag) : V → List V → Hp → VK → Prop := fun x xs H Q => ∃ (a : Str) (p : Addr), ∃ ys : List Str, x = .str a ∧ xs = [.ref p] ∧ (SqL K H p (ys.map V.str) ∨ SqT K H p (ys.map V.str)) ∧ (ys.map (·.length)).sum + ys.length * a.length ≤ 16777216 ∧ Q (.str (Txt.join a ys)) H
/-- f'..' within a comprehension -/
def tJoined (ts : List TE) : TE := fun σ H Q => tJs ts Str.empty σ H fun out H1 => Q (.str out) H1
theorem pe_joinedN {X : Cx} {v1 v2 : Expr} {rest : List Expr} {ts : List TE} {pos : Pos} (h : PJ X (v1 :: v2 :: rest) ts) : PE X (.JoinedStr (v1 :: v2 :: rest) pos) (tJoined ts) := pe_joined h
/-! ### xs[::-1] -/
section
open PySem.Spec PySem.Calls PyProof.Rows
def tRev (K : PySem.W.Frag) (te : TE) (ts : TO) : TE := fun σ H Q => te σ H fun x H1 => ts σ H1 fun st H2 => ∃ (a : Addr) (xs : List V), x = .ref a ∧ st = some (-1) ∧ SqL K H2 a xs ∧ ∀ p, H2 p = none → Q (.ref p) (upd H2 p (.lst xs.reverse))
theorem Vals.rev {xs : List V} {us : List Value} (r : Vals xs us) : Vals xs.reverse us.reverse := by
  induction r with
  | nil => exact .nil
  | cons a b ih =>
    rw [List.reverse_cons, List.reverse_cons]
    exact ih.append (.cons a .nil)
theorem pe_rev {X : Cx} {e : Expr} {te : TE} {st : Expr} {ts : TO} {pos p2 : Pos} (he : PE X e te) (hs : PO X (some st) ts) : PE X (.Subscript e (.Slice none none (some st) p2) pos) (tRev X.K te ts) := by
  refine ⟨fun pins s σ H Q I h => ?_⟩
  refine Subscript_ (thn (he.run pins s σ H _ I h) fun v s1 ⟨x, H1, I1, r1, q1⟩ => ?_)
  refine wpAny_Slice ?_
  rw [evalPart_none]
  refine wpAny_pure (wpAny_pure (thn (hs.run pins s1 σ H1 _ I1 q1) fun vs s3 ⟨stp, H3, I3, ps, a, xs, ex, est, sq, q⟩ => ?_))
  subst ex est
  cases (show v = Value.ref a from r1)
  have I4 : Inv X pins σ H3 { s3 with heap := s3.heap.push { cls := .type "slice", data := .fields #[.none, .none, vs] } } := I3.kept (t' := s3.toks) fun b ob q => Heap.get?_push_of_some _ q
  obtain ⟨its, r, ht, hz⟩ := I4.list sq
  have hlen := r.length
  show wpAny (model X.prog X.w) X.A (subscriptTail e (.Slice none none (some st) p2) (.ref a) (.ref s3.heap.objs.size)) (EP X pins σ Q) X.xe { s3 with heap := s3.heap.push { cls := .type "slice", data := .fields #[.none, .none, vs] } }
  refine tail_any (ops := [.ref a, .ref s3.heap.objs.size]) ht.isList.typeIs slot_list_getitem.lookup ?_ (by with_unfolding_all rfl)
  refine wpAny_getItem_list_slice ht.isList (Heap.IsSliceOf.new ..) .none .none ps (by decide) ?_ (by rw [List.size_toArray]; omega)
  rw [PySem.W.krv_pick]
  refine ⟨.ref _, _, I4.laid (t' := s3.toks) (o := .lst xs.reverse) (fun b ob q => Heap.get?_push_of_some _ q) (Nat.le_refl _) ?_, rfl, q _ (I4.hok.fresh (Nat.le_refl _))⟩
  have rr : Vals xs.reverse its.reverse := Vals.rev r
  exact ⟨by rw [List.length_reverse]; exact hz, _, 0, rr, Heap.get?_push_size _ rfl⟩
end
/-! ### sorted(d, key=lambda k: ..) of a dict with text keys; the lambda reads a local -/
section
open PySem.Spec PySem.Calls PyProof.Rows LamX NdefX PySem.W
/-- the heap without the object at k -/
def goneAt (h : Heap) (k : Addr) : Heap := h.update k fun o => { o with data := .freed }
theorem goneAt_at {h : Heap} {k : Addr} : (goneAt h k).get? k = none := by
  obtain ⟨objs, l⟩ := h
  unfold goneAt Heap.update Heap.get?
  simp only [Array.getElem?_modify, if_true]
  cases objs[k]? <;> rfl
theorem goneAt_ne {h : Heap} {k b : Addr} (e : b ≠ k) : (goneAt h k).get? b = h.get? b := Heap.get?_update_ne _ _ _ _ e
def KAt (kS a : Addr) (kA : Array Value) (e1 : Nat) (s : Shared) : Prop := (∃ e, s.heap.get? kS = some (seqObj "list" kA e)) ∧ s.heap.get? a = some (seqObj "list" #[] e1)
section
variable {prog : Program} {w : World} {A : Around} {E : Value → Shared → Prop} {s : Shared} {a : Addr} {b : Bool} {vs : List Value} {P : PySem.Fin → Shared → Prop} {kz : List PyData} {f : Value}
theorem key_rest {kS : Addr} {e1 : Nat} (J : Array Value → Shared → Prop) (h0 : J #[] s) (at0 : KAt kS a #[] e1 s) (hka : kS ≠ a) (hlen : kz.length = vs.length) (hZ : vs.length ≤ sizeLine) (hal : AllAlike kz) (hsk : Sortable kz) (hu : ∀ d, d ∈ kz → A.units + d.depth < cLine)
    (turn : ∀ (kA : Array Value) (v : Value) (s1 : Shared), vs[kA.size]? = some v → J kA s1 → KAt kS a kA e1 s1 →
      wpAny (model prog w) A (call f [v]) (fun u s2 => KAt kS a kA e1 s2 ∧ ∀ h', Heap.SameBut kS s2.heap h' → J (kA.push u) { s2 with heap := h' }) (fun _ _ => False) s1)
    (done : ∀ (kA : Array Value) (s1 : Shared), kA.size = vs.length → J kA s1 → KAt kS a kA e1 s1 → EachIs (fun v k => ∃ as, Reads s1.heap v k as) kA.toList kz ∧
      ∀ h' tk out c, KeepsBut a (goneAt s1.heap kS) h' → h'.get? a = some (seqObj "list" (List.toArray out) c) → KeyedOut b kz vs out → P (.done (.ret .none)) { s1 with heap := h', toks := tk }) :
    wpAny (model prog w) A (ksk_rest a f b vs.toArray e1 (.ref kS)) P E s := by
  unfold ksk_rest
  refine wpAny_bind (wpAny_rule ?_)
  first
    | rw [List.forIn_toArray]
    | (rw [← Array.forIn_toList]; simp only [List.toList_toArray])
  refine wpAny_bind (ksk_fold (fun i s' => ∃ kA, kA.size = i ∧ J kA s' ∧ KAt kS a kA e1 s') vs 0 s ⟨#[], rfl, h0, at0⟩ (fun j x s1 hx hI => ?_) fun s1 hI => ?_)
  · obtain ⟨kA, hs, hJ, hK⟩ := hI
    have hs : kA.size = j := hs.trans (Nat.zero_add j)
    have hj : j < vs.length := (List.getElem?_eq_some_iff.mp hx).1
    refine wpAny_bind (wpAny_attempt (wpAny_mono (turn kA x s1 (by rw [hs]; exact hx) hJ hK) (fun u s2 hq => ?_) fun _ _ z => z.elim))
    obtain ⟨⟨⟨e, nk⟩, na⟩, hn⟩ := hq
    try dsimp only
    have sb := Heap.SameBut.update s2.heap kS (Obj.mapSeq fun ks => ks.push u)
    obtain ⟨c2, hc2⟩ : ∃ c2, (s2.heap.update kS (Obj.mapSeq fun ks => ks.push u)).get? kS = some (seqObj "list" (kA.push u) c2) := ⟨_, get?_update_seq nk fun ks => ks.push u⟩
    refine wpAny_bind (listUpdate_at nk rfl ?_ (by omega) (by rw [Array.size_push]; omega))
    refine wpAny_pure ⟨rfl, kA.push u, ?_, hn _ sb, ⟨c2, hc2⟩, (sb.2 a hka.symm).trans na⟩
    rw [Array.size_push, hs, Nat.zero_add]
  · obtain ⟨kA, hs, hJ, hK⟩ := hI
    have hs : kA.size = vs.length := hs.trans (Nat.zero_add _)
    obtain ⟨hk, hfin⟩ := done kA s1 hs hJ hK
    obtain ⟨⟨e, nk⟩, na⟩ := hK
    try dsimp only
    refine wpAny_bind (listItems_at nk rfl ?_)
    refine keyH_end (κ := dataKind s1.heap kz) (h₁ := goneAt s1.heap kS) (fun b' o hb q => ?_) goneAt_at nk na hka (SortsAt.data (s := s1) hk hal hsk hu) hs hZ fun h3 tk3 c k3 n3 => hfin h3 tk3 _ c k3 n3 ⟨s1.heap, kA.toList, hal, rfl, hk⟩
    by_cases hbk : b' = kS
    · rw [hbk, goneAt_at] at q
      cases q
    · rw [goneAt_ne hbk] at q
      exact q
theorem key_tree {n : Nat} (ho : s.heap.get? a = some (seqObj "list" vs.toArray n)) (hZ : vs.length ≤ sizeLine)
    (go : ∀ (kS : Addr) (e1 : Nat) (h1 : Heap), s.heap.objs.size ≤ kS → KeepsBut a s.heap h1 → KAt kS a #[] e1 { s with heap := h1 } → wpAny (model prog w) A (ksk_rest a f b vs.toArray e1 (.ref kS)) P E { s with heap := h1 }) :
    wpAny (model prog w) A (ksk_tree a f b) P E s := by
  have ha : a < s.heap.objs.size := Heap.lt_size ho
  obtain ⟨e1, ho1⟩ : ∃ e1, (s.heap.update a (Obj.mapSeq fun _ => (#[] : Array Value))).get? a = some (seqObj "list" #[] e1) := ⟨_, get?_update_seq ho fun _ => #[]⟩
  have hsz : ((s.heap.update a (Obj.mapSeq fun _ => (#[] : Array Value))).push (seqObj "tuple" vs.toArray 0)).objs.size = s.heap.objs.size + 1 := by
    rw [PyProof.Rows.size_push', Heap.size_update]
  unfold ksk_tree
  refine wpAny_bind (listItems_at ho rfl ?_)
  refine wpAny_bind (listUpdate_at ho rfl ?_ (by rw [List.size_toArray]; exact hZ) (Nat.zero_le _))
  refine wpAny_bind (seqEpoch_at ho1 rfl ?_)
  refine wpAny_bind (wpAny_newTuple ?_ (by show vs.length ≤ _; exact hZ))
  refine wpAny_bind (wpAny_newList ?_ (Nat.zero_le _))
  refine wpAny_holding ?_
  refine go _ e1 _ (by rw [hsz]; exact Nat.le_succ _) (fun b' o hb q => ?_) ⟨⟨0, Heap.get?_push_size _ rfl⟩, Heap.get?_push_of_some _ (Heap.get?_push_of_some _ ho1)⟩
  exact Heap.get?_push_of_some _ (Heap.get?_push_of_some _ ((Heap.get?_update_ne _ _ _ _ hb).trans q))
end
/-! the frame's own view: objects that are not tracked, made since, may change -/
section
variable {X : Cx} {pins : List (Addr × Obj)} {σ : L2.St} {H H' : Hp} {s s' : Shared}
def Off (X : Cx) (pins : List (Addr × Obj)) (b : Addr) : Prop := (b ∈ X.ex ∨ X.s_0.heap.objs.size ≤ b) ∧ b ≠ X.env.locals ∧ (∀ x c, X.env.cells.lookup x = some c → c ≠ b) ∧ ∀ p ∈ X.pn ++ pins, p.1 ≠ b
theorem off_of (I : Inv X pins σ H s) {b : Addr} (h : s.heap.objs.size ≤ b) : Off X pins b := by
  have lt : ∀ {c : Addr} {o : Obj}, s.heap.get? c = some o → c ≠ b := fun {c o} e z => by
    rw [z] at e
    exact Nat.lt_irrefl _ (Nat.lt_of_lt_of_le (Heap.lt_size e) h)
  refine ⟨.inr (Nat.le_trans I.sz h), fun z => Nat.lt_irrefl _ (Nat.lt_of_lt_of_le (by rw [z]; exact I.lt) h), fun x c e => ?_, fun p hp => lt (I.pin p hp).1⟩
  obtain ⟨v, o, ho, _⟩ := I.cell x c e
  exact lt ho
theorem offr_of (I : Inv X pins σ H s) {b : Addr} (h : s.heap.objs.size ≤ b) : b ∉ frs X.stack := fun z => by
  rcases List.mem_cons.mp (I.stkSub _ z) with e | e
  · exact Nat.lt_irrefl _ (Nat.lt_of_lt_of_le (by rw [e]; exact I.lt) h)
  · exact I.nofs h e
theorem inv_but {ch : List Addr} (I : Inv X pins σ H s) (hos : s'.os = s.os) (hg : AllBare s'.gens) (hn : ∀ b ∈ ch, H b = none ∧ Off X pins b) (k : ∀ b u, b ∉ ch → s.heap.get? b = some u → s'.heap.get? b = some u) (hH : ∀ b, b ∉ ch → H' b = H b)
    (new : ∀ b ∈ ch, ∀ o, H' b = some o → ObjOk X.prog X.w H' s'.heap b o) : Inv X pins σ H' s' := by
  have nch : ∀ {b : Addr} {u : HO}, H b = some u → b ∉ ch := fun {b u} e z => by
    rw [(hn b z).1] at e
    cases e
  have sm : ∀ {b : Addr} {u : HO}, H b = some u → H' b = some u := fun {b u} e => (hH b (nch e)).trans e
  refine I.call' hos (ch := ch) ⟨fun b o e n _ hc => k b o hc e, fun b o e n _ hc => ⟨o.slots, k b o hc e⟩, fun b o e n hc => (hH b hc).trans n, fun b o e hc => ⟨o, k b o hc e⟩, fun b xs e => sm e, fun b o u e => sm e, fun b ps e => ⟨#[], by rw [sm e]; simp⟩⟩ (fun b o e => ?_) hg fun b hb => (hn b hb).2
  by_cases hb : b ∈ ch
  · exact new b hb o e
  · rw [hH b hb] at e
    refine (I.hok b o e).stay (fun d u hd q => k d u ?_ q) (fun d q => sm q) (fun d xs q => sm q)
    rcases hd with z | z
    · rw [z]
      exact hb
    · exact nch z
/-- the lambda is called: N its names, ps its parameters, fr the captured names, ws their values -/
theorem lam_call {P : Program} {w : World} {K : PySem.W.Frag} {mg : Str → Option Value} {base : Heap} {A : Around} {outer : List Env} {s1 : Shared} {Hj : Hp} {k : Nat} {f c' : Addr} {q : Str} {params : Arguments} {body : Expr} {scope : Scope} {cl : List (Str × Addr)} {pm ctv : Value} {N ps fr : List Str} {us : List Value} {vs : List V} {ws : List (Option V)}
    {tb : TE} {Q : VK} (e0 : Env0 P w K mg base A outer s1 Hj) (hr : Room (k + 1) A) (hf : s1.heap.get? f = some (PySem.W.kla_obj "<lambda>" q params body scope cl pm c' ctv)) (hc : Hj c' = some (CodeO c' q)) (S : NScope N ps fr scope) (C : CellsAt cl fr ws s1.heap Hj)
    (hb : bindArgs (PySem.W.kla_fn "<lambda>" q params body scope cl pm (.ref c') ctv) ⟨us, []⟩ = pure (ps.zip us)) (rv : Vals vs us) (hl : vs.length = ps.length)
    (hbody : Room k (A.deeper (envF ⟨"<lambda>", q, params, [], scope, cl, c'⟩ f s1.heap.objs.size)) → PE (ncx CX0 P w K mg base N ⟨"<lambda>", q, params, [], scope, cl, c'⟩ f A outer s1 Hj E0) body tb) (ht : tb (startF N vs ws) Hj Q) :
    codeAny (model P w) A (.call (.ref f) ⟨us, []⟩) (CR CX0 outer P w Hj s1 Q E0) s1 := by
  have lim : s1.heap.NoLimit := e0.mod.nolimit.keeps fun b o e => (e0.bs b o e).1
  refine PySem.W.kla_callFunE hr.depth hf rfl S.co S.gen rfl (codeO_at e0.hok hc) ?_
  rw [hb]
  refine wpAny_pure (wpAny_newFunctionEnv S.nocell (fun ⟨n, _⟩ hy => S.par n (List.of_mem_zip hy).1) (fun h₁ hns hsb => ⟨lim.fresh _ hsb, ?_⟩) S.kind)
  show codeAny _ _ (.expr body (envF ⟨"<lambda>", q, params, [], scope, cl, c'⟩ f s1.heap.objs.size)) _ _
  have kp : ∀ b o, s1.heap.get? b = some o → h₁.get? b = some o := fun b o e => hsb.extBut b o (Nat.ne_of_lt (Heap.lt_size e)) (Heap.get?_push_of_some _ e)
  have J : Inv (ncx CX0 P w K mg base N ⟨"<lambda>", q, params, [], scope, cl, c'⟩ f A outer s1 Hj E0) [] (startF N vs ws) Hj { s1 with heap := h₁, toks := s1.toks + (ps.zip us).length } := inv_startN S hr.hd e0 hl rv C hns kp
  refine PySem.W.kla_codeExpr (wpAny_mono ((hbody (hr.deeper _)).run [] _ _ Hj Q J ht) (fun v s2 hq => ?_) fun e s2 hq => hq)
  obtain ⟨w', H2, J2, rw', q2⟩ := hq
  exact ⟨w', H2, J2.os, J2.bare, J2.base, J2.hok, rw', q2⟩
end
/-- sorted(d, key=lambda k: body): te reads d, tb is the body's reading; N, fr: the lambda's names, the captured ones; js: where these stand -/
def tSortLam (K : PySem.W.Frag) (q : Str) (P : Addr) (N : List Str) (js : List Nat) (te tb : TE) : TE := fun σ H Q => te σ H fun v H1 => ∃ (d : Addr) (kvs : List (Key × V)) (ks : List Str) (kf : Str → PyData), v = .ref d ∧ TabS H1 P q ∧ Rd H1 d (.dK kvs) ∧ kvs.map (·.1) = ks.map Sum.inr ∧ ks.length ≤ 1000 ∧
  AllAlike (ks.map kf) ∧ Sortable (ks.map kf) ∧ (∀ k ∈ ks, (kf k).depth ≤ 8) ∧
  (∀ k ∈ ks, ∀ H2, ExtN H1 H2 → tb (startF N [.str k] (js.map (slotAt σ))) H2 fun u H3 => Same H2 H3 ∧ Dp K H3 u (kf k)) ∧
  ∀ (p : Addr) (H2 : Hp), ExtN H1 H2 → TabS H2 P q → H2 p = none → Q (.ref p) (upd H2 p (.lst ((ks.mergeSort (dataLe false kf)).map V.str)))
theorem vals_push {us : List V} {kA : Array Value} {v : V} {u : Value} (h : Vals us kA.toList) (r : RelV v u) : Vals (us ++ [v]) (kA.push u).toList := by
  rw [Array.toList_push]
  exact h.append (.cons r .nil)
theorem dpA_app {K : PySem.W.Frag} {H : Hp} : ∀ {xs : List V} {ds : List PyData} {y : V} {e : PyData}, DpAll K H xs ds → Dp K H y e → DpAll K H (xs ++ [y]) (ds ++ [e])
  | _, _, _, _, .nil, h => .cons h .nil
  | _, _, _, _, .cons a b, h => .cons a (dpA_app b h)
theorem reads_each {h : Heap} : ∀ {us : List V} {vs : List Value} {ds : List PyData}, Vals us vs → us.length = ds.length → (∀ (i : Nat) v d u, us[i]? = some u → vs[i]? = some v → ds[i]? = some d → ∃ as, Reads h v d as) → EachIs (fun v k => ∃ as, Reads h v k as) vs ds
  | [], [], [], _, _, _ => .nil
  | u :: us, v :: vs, d :: ds, .cons a b, hl, hr => .cons (hr 0 v d u rfl rfl rfl) (reads_each b (by simpa using hl) fun i v' d' u' e1 e2 e3 => hr (i + 1) v' d' u' (by simpa using e1) (by simpa using e2) (by simpa using e3))
  | [], [], _ :: _, _, hl, _ => by simp at hl
  | _ :: _, _ :: _, [], _, hl, _ => by simp at hl
theorem dpA_get {K : PySem.W.Frag} {H : Hp} : ∀ {vs : List V} {ds : List PyData} {i : Nat} {v : V} {d : PyData}, DpAll K H vs ds → vs[i]? = some v → ds[i]? = some d → Dp K H v d
  | _, _, 0, _, _, .cons a _, h1, h2 => by cases h1; cases h2; exact a
  | _, _, i + 1, _, _, .cons _ b, h1, h2 => dpA_get (i := i) b h1 h2
theorem dpA_len {K : PySem.W.Frag} {H : Hp} : ∀ {vs : List V} {ds : List PyData}, DpAll K H vs ds → vs.length = ds.length
  | _, _, .nil => rfl
  | _, _, .cons _ b => congrArg (· + 1) (dpA_len b)
mutual
theorem dpS_mono {K : PySem.W.Frag} {H H' : Hp} (e : Same H H') : ∀ {v : V} {d : PyData}, Dp K H v d → Dp K H' v d
  | _, _, .non => .non
  | _, _, .bl b => .bl b
  | _, _, .int i => .int i
  | _, _, .str x => .str x
  | _, _, .lst h a => .lst (e.seq h) (dpSAll_mono e a)
  | _, _, .tup h a => .tup (by
      rcases h with (h | ⟨o, h⟩) | h
      · exact .inl (.inl (e _ _ h))
      · exact .inl (.inr ⟨o, e _ _ h⟩)
      · exact .inr h) (dpSAll_mono e a)
theorem dpSAll_mono {K : PySem.W.Frag} {H H' : Hp} (e : Same H H') : ∀ {vs : List V} {ds : List PyData}, DpAll K H vs ds → DpAll K H' vs ds
  | _, _, .nil => .nil
  | _, _, .cons a b => .cons (dpS_mono e a) (dpSAll_mono e b)
end
theorem strs_each {us : List Value} {ks : List Str} (h : StrsAre us ks) : EachIs (fun u k => ∃ t, u = Value.str k t) us ks := by
  induction h with
  | nil => exact .nil
  | cons x t _ ih => exact .cons ⟨t, rfl⟩ ih
theorem each_strs : ∀ {us : List Value} {ks : List Str}, EachIs (fun u k => ∃ t, u = Value.str k t) us ks → Vals (ks.map V.str) us
  | _, _, .nil => .nil
  | _, _, .cons ⟨t, e⟩ h => .cons ⟨t, e⟩ (each_strs h)
section
variable {X : Cx} {c P : Addr} {params : Arguments} {body : Expr} {scope : Scope} {te tb : TE} {p lpos kpos pos : Pos} {e : Expr} {N fr : List Str} {js : List Nat} {y : Str} {k : Nat}
theorem pe_sortLam (hr : Room (k + 3) X.A) (hcalm : X.calm = true) (hg : Gl X "sorted") (hm : X.mg "sorted" = none) (TB : TabB X.base X.mg c P) (hcode : X.env.code = .ref c) (hdef : defaultsOf params X.env = ([], [])) (S : NScope N [y] fr scope)
    (hnd : ndefB X.env.scope scope fr = true) (hjs : js.map (fun j => X.N[j]?) = fr.map some) (hbind : ∀ (q : Str) (cl : List (Str × Addr)) (pm cv ctv u : Value), bindArgs (PySem.W.kla_fn "<lambda>" q params body scope cl pm cv ctv) ⟨[u], []⟩ = pure ([y].zip [u]))
    (ha : PA X [e] (tCons te tNil)) (hbody : ∀ (A : Around) (outer : List Env) (s : Shared) (H : Hp) (f c' : Addr) (q : Str) (cl : List (Str × Addr)), Room k (A.deeper (envF ⟨"<lambda>", q, params, [], scope, cl, c'⟩ f s.heap.objs.size)) → PE (ncx CX0 X.prog X.w X.K X.mg X.base N ⟨"<lambda>", q, params, [], scope, cl, c'⟩ f A outer s H E0) body tb)
    (hee : backTo pos (starEach [e] X.env) = (false, eval e X.env) :: backTo pos (starEach [] X.env) := by rfl) (hpl : (backTo pos (starEach [e] X.env)).any (·.1) = false := by rfl) :
    PE X (.Call (.Name "sorted" p) [e] [⟨some "key", .Lambda params body scope lpos, kpos⟩] pos) (tSortLam X.K (X.env.qual ++ "<lambda>") P N js te tb) := by
  refine ⟨fun pins s σ H Q I h => ?_⟩
  have hbs : bootBuiltins ("sorted" : Str) = some (.builtin "sorted") := by decide +kernel
  refine wpAny_Call_Name_kw (ld_blt I hg hm hbs ?_ (by decide) (by decide))
  refine PyProof.Rows.callWith_kw (thn (ha.run pos pins s σ H (fun vs H1 => match vs with
    | [v] => ∃ (d : Addr) (kvs : List (Key × V)) (ks : List Str) (kf : Str → PyData), v = .ref d ∧ TabS H1 P (X.env.qual ++ "<lambda>") ∧ Rd H1 d (.dK kvs) ∧ kvs.map (·.1) = ks.map Sum.inr ∧ ks.length ≤ 1000 ∧
      AllAlike (ks.map kf) ∧ Sortable (ks.map kf) ∧ (∀ k ∈ ks, (kf k).depth ≤ 8) ∧
      (∀ k ∈ ks, ∀ H2, ExtN H1 H2 → tb (startF N [.str k] (js.map (slotAt σ))) H2 fun u H3 => Same H2 H3 ∧ Dp X.K H3 u (kf k)) ∧
      ∀ (p : Addr) (H2 : Hp), ExtN H1 H2 → TabS H2 P (X.env.qual ++ "<lambda>") → H2 p = none → Q (.ref p) (upd H2 p (.lst ((ks.mergeSort (dataLe false kf)).map V.str)))
    | _ => False) I h) fun us s1 ⟨vs, H1, I1, r1, q1⟩ => ?_) hee hpl (by rfl) (by rfl)
  obtain ⟨v, rfl⟩ : ∃ v, vs = [v] := by
    match vs, q1 with
    | [v], _ => exact ⟨v, rfl⟩
  obtain ⟨d, kvs, ks, kf, rfl, hT, hd, hks, hkl, hal, hsk, hdep, hturn, hfin⟩ := q1
  obtain ⟨u0, rfl, ru0⟩ := vals1 r1
  cases (show u0 = Value.ref d from ru0)
  have hfree := ndef_free hnd
  have hfreeC : ∀ y ∈ scope.names, y.2 = .free → ∃ c, X.env.cells.lookup y.1 = some c := fun y hy z => (hfree y hy z).elim (fun z => I.ok.has _ (.inl z)) fun z => I.ok.has _ (.inr z)
  show wpAny _ _ (evalAll [do let v ← eval (.Lambda params body scope lpos) X.env; standAt pos; pure v]) _ _ s1
  refine wpAny_evalAll_cons (wpAny_bind (lam_make2 (T := [(P, X.env.qual ++ "<lambda>")]) I1 TB hcode List.mem_cons_self (fun p hp _ => by rw [List.mem_singleton.mp hp]) (fun p hp => by rw [List.mem_singleton.mp hp]; exact hT) hdef hfreeC fun f c' pm ctv H2 s2 I2 eN T2 hf hfn hfr hco => ?_))
  refine wpAny_bind (wpAny_standAt (wpAny_pure (wpAny_evalAll_nil ?_)))
  have hT2 : TabS H2 P (X.env.qual ++ "<lambda>") := T2 (P, X.env.qual ++ "<lambda>") List.mem_cons_self
  have hd2 : Rd H2 d (.dK kvs) := by
    rcases hd with z | ⟨o, z⟩
    · exact .inl (eN _ _ z fun ps q => by cases q)
    · exact .inr ⟨o, eN _ _ z fun ps q => by cases q⟩
  show wpAny (model X.prog X.w) X.A (call (.builtin "sorted") [.ref d] [(Str.ofString "key", .ref f)]) _ _ s2
  -- the keys
  obtain ⟨z, lo, vs, rel, dd⟩ := dk_rd I2.hok hd2
  obtain ⟨ep, hat⟩ := dd.dictAt
  have hkeys : vs.map (·.1) = ks.map Sum.inr := rel.keys.symm.trans hks
  have hvl : vs.length = ks.length := by
    have z := congrArg List.length hkeys
    rw [List.length_map, List.length_map] at z
    exact z
  have hkz : ks.length ≤ sizeLine := Nat.le_trans hkl (by decide)
  refine PyProof.Rows.call_function_entry_kw PyProof.Rows.kind_sorted PyProof.Rows.plain_sorted PyProof.Rows.entry_sorted (ksk_s1 _ _) ?_
  unfold Builtin.«sorted»
  refine wpAny_bind (m := checkCount "sorted" 1 1 _) (wpAny_pure ?_)
  refine wpAny_bind (PySem.W.kdu_collect (A := X.A.in1) (PySem.W.kdl_dict (knd := mixKind X.prog X.w) (kvs := vs) (ep := ep) lo) (I2.ok.hd hcalm) hat (by rw [hvl]; exact hkz) fun h3 tk3 acc hk3 hacc => ?_)
  have hacl : acc.toList.length = ks.length := by rw [Array.length_toList, hacc.1, hvl]
  have hS : StrsAre acc.toList ks := strs_at hacl fun j v z => by
    obtain ⟨k, x, e1, e2⟩ := hacc.2 j v (by rw [← Array.getElem?_toList]; exact z)
    have e3 : (ks.map (Sum.inr (α := Int)))[j]? = some k := by
      rw [← hkeys, List.getElem?_map, e1]
      rfl
    rw [List.getElem?_map] at e3
    obtain ⟨y', e4, e5⟩ := Option.map_eq_some_iff.mp e3
    subst e5
    obtain ⟨t, ev⟩ := Value.isStrOf_shape (x := y') (v := v) e2
    exact ⟨y', t, e4, ev⟩
  have I3 : Inv X pins σ H2 { s2 with heap := h3, toks := tk3 } := I2.kept hk3
  refine wpAny_bind (wpAny_newList ?_ (by rw [hacl]; exact hkz))
  have hoL : (h3.push (seqObj "list" acc.toList.toArray 0)).get? h3.objs.size = some (seqObj "list" acc.toList.toArray 0) := Heap.get?_push_size _ rfl
  have I4 : Inv X pins σ H2 { s2 with heap := h3.push (seqObj "list" acc.toList.toArray 0), toks := tk3 } := I3.kept fun b o z => Heap.get?_push_of_some _ z
  have nA : H2 h3.objs.size = none := I3.hok.fresh (Nat.le_refl _)
  have oA : Off X pins h3.objs.size := off_of I3 (Nat.le_refl _)
  have rA : h3.objs.size ∉ frs X.stack := offr_of I3 (Nat.le_refl _)
  have szA : h3.objs.size < (h3.push (seqObj "list" acc.toList.toArray 0)).objs.size := Heap.lt_size hoL
  have hf4 : (h3.push (seqObj "list" acc.toList.toArray 0)).get? f = some (PySem.W.kla_obj "<lambda>" (X.env.qual ++ "<lambda>") params body scope (cloFrom X.env.cells scope.names []) pm c' ctv) := Heap.get?_push_of_some _ (hk3 _ _ hf)
  have neFA : f ≠ h3.objs.size := Nat.ne_of_lt (Heap.lt_size (hk3 _ _ hf))
  generalize h3.push (seqObj "list" acc.toList.toArray 0) = h4 at *
  generalize h3.objs.size = a at *
  show wpAny _ _ _ _ _ { s2 with heap := h4, toks := tk3 }
  refine wpAny_bind (wpAny_holding (wpAny_call_entry_kw PyProof.Rows.slot_list_sort ⟨_, hoL, rfl⟩ PyProof.Rows.entry_list_sort ?body (ksk_l1 _ _)))
  case body =>
    rw [ksk_t1]
    refine key_tree hoL (by rw [hacl]; exact hkz) fun kS e1 h5 hkS kp5 at5 => ?_
    have hka : kS ≠ a := fun z => Nat.lt_irrefl _ (Nat.lt_of_lt_of_le szA (by rw [← z]; exact hkS))
    have oS : Off X pins kS := off_of I4 hkS
    have rS : kS ∉ frs X.stack := offr_of I4 hkS
    have nS : H2 kS = none := I4.hok.fresh hkS
    have neFS : f ≠ kS := Nat.ne_of_lt (Nat.lt_of_lt_of_le (Heap.lt_size hf4) hkS)
    have I5 : Inv X pins σ H2 { s2 with heap := h5, toks := tk3 } := inv_but (ch := [a]) I4 rfl I4.bare (fun b hb => by rw [List.mem_singleton.mp hb]; exact ⟨nA, oA⟩) (fun b u hb q => kp5 b u (fun z => hb (by rw [z]; exact List.mem_cons_self)) q) (fun _ _ => rfl) (fun b hb o q => by
      rw [List.mem_singleton.mp hb, nA] at q
      cases q)
    have hV : Vals (ks.map V.str) acc.toList := each_strs (strs_each hS)
    refine key_rest (kz := ks.map kf) (fun kA s3 => ∃ (Hj : Hp) (us : List V), Inv X pins σ Hj s3 ∧ s3.os = s2.os ∧ Same H2 Hj ∧ Hj kS = none ∧ Hj a = none ∧ Hj f = none ∧
      s3.heap.get? f = some (PySem.W.kla_obj "<lambda>" (X.env.qual ++ "<lambda>") params body scope (cloFrom X.env.cells scope.names []) pm c' ctv) ∧ Vals us kA.toList ∧ DpAll X.K Hj us ((ks.take kA.size).map kf))
      ⟨H2, [], I5, rfl, Same.refl _, nS, nA, hfn, kp5 _ _ neFA hf4, .nil, .nil⟩ at5 hka (by rw [List.length_map, hacl]) (by rw [hacl]; exact hkz) hal hsk (fun d hd => ?_) ?turn ?done
    · obtain ⟨k0, hk0, rfl⟩ := List.mem_map.mp hd
      have h1 := hdep k0 hk0
      have h2 := hr.units
      show X.A.units + 1 + 1 + _ < _
      omega
    case turn =>
      intro kA v s3 hv hJ hK
      obtain ⟨Hj, us, Ij, hos, hsm, nSj, nAj, nFj, hfj, hus, hdp⟩ := hJ
      obtain ⟨⟨e', nk⟩, na⟩ := hK
      have hi : kA.size < ks.length := by
        have := (List.getElem?_eq_some_iff.mp hv).1
        omega
      obtain ⟨k0, hk0⟩ : ∃ k0, ks[kA.size]? = some k0 := ⟨_, List.getElem?_eq_getElem hi⟩
      have rv : RelV (.str k0) v := by
        obtain ⟨u, e1, e2⟩ := hV.get (i := kA.size) (x := .str k0) (by rw [List.getElem?_map, hk0]; rfl)
        rw [e1] at hv
        cases hv
        exact e2
      have C : CellsAt (cloFrom X.env.cells scope.names []) fr (js.map (slotAt σ)) s3.heap Hj := cells_of Ij (Caps.made I.ok hfree (ndef_fr hnd) hjs)
      have ht := hturn k0 (List.mem_of_getElem? hk0) Hj (eN.trans (ExtN.of hsm))
      have rc := lam_call Ij.env0.in1.in1 (hr : Room (k + 1 + 1 + 1) X.A).in1.in1 hfj (hsm _ _ hco) S C (hbind _ _ _ _ _ v) (.cons rv .nil) rfl (fun hr' => hbody _ _ _ _ _ _ _ _ hr') ht
      refine wpAny_call (codeAny_mono rc fun r s4 hq => ?_)
      cases r with
      | error er => exact (show False from hq).elim
      | ok fl =>
        cases fl with
        | next => exact False.elim hq
        | brk => exact False.elim hq
        | cont => exact False.elim hq
        | ret u =>
          obtain ⟨u', H4, os4, bare4, un4, hok4, ru, hsm4, hdp4⟩ := hq
          have I6 : Inv X pins σ H4 s4 := Ij.call' os4 (ch := []) un4 hok4 bare4 (fun b z => absurd z (by simp))
          have keep : ∀ {b : Addr} {o : Obj}, s3.heap.get? b = some o → Hj b = none → b ∉ frs X.stack → s4.heap.get? b = some o := fun {b o} q n r => un4.keep b o q n r (by simp)
          have free : ∀ {b : Addr} {o : Obj}, s3.heap.get? b = some o → Hj b = none → H4 b = none := fun {b o} q n => un4.free b o q n (by simp)
          refine ⟨⟨⟨e', keep nk nSj rS⟩, keep na nAj rA⟩, fun h' sb => ⟨H4, us ++ [u'], inv_but (ch := [kS]) I6 rfl I6.bare (fun b hb => by rw [List.mem_singleton.mp hb]; exact ⟨free nk nSj, oS⟩) (fun b o hb q => (sb.2 b fun z => hb (by rw [z]; exact List.mem_cons_self)).trans q) (fun _ _ => rfl) (fun b hb o q => ?_),
            os4.trans hos, hsm.trans hsm4, free nk nSj, free na nAj, free hfj nFj, (sb.2 f neFS).trans (keep hfj nFj hfr), vals_push hus ru, ?_⟩⟩
          · rw [List.mem_singleton.mp hb, free nk nSj] at q
            cases q
          · rw [Array.size_push, List.take_add_one, hk0, Option.toList_some, List.map_append]
            exact dpA_app (dpSAll_mono hsm4 hdp) hdp4
    case done =>
      intro kA s3 hsz hJ hK
      obtain ⟨Hj, us, Ij, hos, hsm, nSj, nAj, nFj, hfj, hus, hdp⟩ := hJ
      obtain ⟨⟨e', nk⟩, na⟩ := hK
      have hdp : DpAll X.K Hj us (ks.map kf) := by
        rw [List.take_of_length_le (by omega)] at hdp
        exact hdp
      refine ⟨reads_each hus (dpA_len hdp) fun i v dd u e1 e2 e3 => ?_, fun h' tk out c0 kp ha hko => ⟨_, rfl, ?_⟩⟩
      · obtain ⟨v', e4, rl⟩ := hus.get e1
        rw [e2] at e4
        cases e4
        exact Dp.reads Ij dd u v (dpA_get hdp e1 e3) rl
      · have hout := keyedOut_each kf hko (strs_each hS)
        have hVo := each_strs hout
        refine wpAny_pure ⟨_, rfl, .ref a, upd Hj a (.lst ((ks.mergeSort (dataLe false kf)).map V.str)), inv_but (ch := [a, kS]) Ij rfl Ij.bare (fun b hb => ?_) (fun b o hb q => kp b o (fun z => hb (by rw [z]; exact List.mem_cons_self)) ((goneAt_ne fun z => hb (by rw [z]; exact List.mem_cons_of_mem _ List.mem_cons_self)).trans q)) (fun b hb => upd_ne fun z => hb (by rw [z]; exact List.mem_cons_self)) (fun b hb o q => ?_), rfl, hfin a Hj (eN.trans (ExtN.of hsm)) (hT2.ext hsm) nAj⟩
        · rcases List.mem_cons.mp hb with z | z
          · rw [z]
            exact ⟨nAj, oA⟩
          · rw [List.mem_singleton.mp z]
            exact ⟨nSj, oS⟩
        · by_cases z : b = a
          · rw [z, upd_same] at q
            cases q
            rw [z]
            refine ⟨?_, out, c0, hVo, ha⟩
            rw [List.length_map, List.length_mergeSort]
            exact hkz
          · rw [upd_ne z] at q
            rcases List.mem_cons.mp hb with z' | z'
            · exact absurd z' z
            · rw [List.mem_singleton.mp z', nSj] at q
              cases q
end
end
/-! ### rules that the catalogs want -/
section
open PySem.Spec PySem.Calls PyProof.Rows
section
variable {X : Cx} {pins : List (Addr × Obj)} {σ : L2.St} {H : Hp} {s : Shared}
/-- *d, d a dict: its keys -/
theorem star_dK {a : Addr} {kvs : List (Key × V)} {E : Value → Shared → Prop} {Q : List Value → Shared → Prop} (hcalm : X.calm = true) (I : Inv X pins σ H s) (h : Rd H a (.dK kvs)) (hQ : ∀ us s', Inv X pins σ H s' → Vals (kvs.map fun q => kV q.1) us → Q us s') : PySem.W.StarOf (model X.prog X.w) X.A E (.ref a) Q s := by
  obtain ⟨hz, lo, vs, rel, dd⟩ := dk_rd I.hok h
  obtain ⟨ep, hat⟩ := dd.dictAt
  have hkeys : vs.map (·.1) = kvs.map (·.1) := rel.keys.symm
  have hl : vs.length = kvs.length := by
    have z := congrArg List.length hkeys
    rw [List.length_map, List.length_map] at z
    exact z
  unfold PySem.W.StarOf notIterableAtAll
  refine wpAny_bind (wpAny_specialOf dd.typeIs PySem.F.slot_dict_iter.lookup (wpAny_pure ⟨rfl, ?_⟩))
  refine PySem.W.kdu_collect (A := X.A) (PySem.W.kdl_dict (knd := mixKind X.prog X.w) (kvs := vs) (ep := ep) lo) (I.ok.hd hcalm) hat (by rw [hl]; exact hz) fun h' tk acc hk hacc => ?_
  refine hQ _ _ (I.kept hk) ?_
  have e2 : (kvs.map fun q => kV q.1) = vs.map fun q => kV q.1 := by
    have := congrArg (List.map kV) hkeys
    rw [List.map_map, List.map_map] at this
    exact this.symm
  rw [e2]
  exact keys_at (by rw [Array.length_toList, hacc.1]) fun j v e => by
    obtain ⟨k, x, e1, e3⟩ := hacc.2 j v (by rw [← Array.getElem?_toList]; exact e)
    exact ⟨k, x, e1, e3⟩
end
def tStarD (te : TE) (t : TA) : TA := fun σ H Q => te σ H fun x H1 => ∃ p kvs, x = V.ref p ∧ Rd H1 p (.dK kvs) ∧ t σ H1 fun ys H2 => Q ((kvs.map fun q => kV q.1) ++ ys) H2
theorem pa_starD {X : Cx} {e : Expr} {es : List Expr} {te : TE} {t : TA} {p : Pos} (hcalm : X.calm = true) (he : PE X e te) (hr : PA X es t) (hs : starEach (.Starred e p :: es) X.env = (true, eval e X.env) :: starEach es X.env := by rfl) : PA X (.Starred e p :: es) (tStarD te t) := by
  refine ⟨fun pos pins s σ H Q I h => ?_⟩
  refine PySem.W.items_star (thn (he.run pins s σ H _ I h) fun v s1 ⟨y, H1, I1, ry, a, kvs, ey, hx, q⟩ => ?_) hs
  subst ey
  obtain rfl : v = Value.ref a := ry
  refine star_dK hcalm I1 hx fun us s2 I2 rv => ?_
  exact thn (hr.run pos pins s2 σ H1 _ I2 q) fun ws s3 ⟨vs, H3, I3, r3, q3⟩ => ⟨_, H3, I3, rv.append r3, q3⟩
/-! C(e, .., k = v, ..) with defaults, within a try -/
def tMakeKS (C : Addr) (n m : Nat) (sp : Sp) (gV : List V → List V → List V) (E : L2.St → XK) (t tk : TA) : TE := fun σ H Q => t σ H fun vs H1 => tk σ H1 fun zs H2 => vs.length = n ∧ zs.length = m ∧ ∀ x dx, H2 x = none → H2 dx = none → dx ≠ x →
  sp (gV (.ref x :: vs) zs) (upd (upd H2 dx (.own x)) x (.ins C dx [])) (fun v H3 => v = .non ∧ Q (.ref x) H3) (E σ)
section
variable {X : Cx} {CX : CXT} {k n : Nat} {f C : Addr} {fd : FuncData} {ps ks : List Str} {sp : Sp} {x : Str} {p pos : Pos} {e : Expr} {es : List Expr} {kws : List Keyword} {t tk : TA} {g : List Value → List Value → List Value} {gV : List V → List V → List V}
theorem run_makeKS {E : L2.St → XK} {pins : List (Addr × Obj)} {σ : L2.St} {H : Hp} {s : Shared} {Q : VK} {us ws : List Value} {vs zs : List V} (M : Mk X.K C f) (F : FnOk X.prog X.w X.K X.mg X.base CX k f fd ps sp) (hr : Room (k + 1) X.A)
    (hb : KBn X.K fd ps (n + 1) ks g gV) (hx : PassesAt CX X σ (E σ)) (I : Inv X pins σ H s) (r : Vals vs us) (rz : Vals zs ws) (l1 : vs.length = n) (l2 : zs.length = ks.length)
    (h : ∀ x dx, H x = none → H dx = none → dx ≠ x → sp (gV (.ref x :: vs) zs) (upd (upd H dx (.own x)) x (.ins C dx [])) (fun v H2 => v = .non ∧ Q (.ref x) H2) (E σ)) :
    wpAny (model X.prog X.w) X.A (call (.ref C) us (ks.zip ws)) (EP X pins σ Q) X.xe s := by
  have hq := h (s.heap.objs.size + 1) s.heap.objs.size (I.hok.fresh (Nat.le_succ _)) (I.hok.fresh (Nat.le_refl _)) (Nat.ne_of_lt (Nat.lt_succ_self _))
  have I2 := Inv.made (C := C) I
  have r1 : Vals (V.ref (s.heap.objs.size + 1) :: vs) (Value.ref (s.heap.objs.size + 1) :: us) := .cons rfl r
  have lu : (Value.ref (s.heap.objs.size + 1) :: us).length = n + 1 := by
    rw [List.length_cons, ← r.length, l1]
  refine wpAny_call (make_map (f := f) I.kIn M.makes M.init (beq_iff_eq.mp M.fn) (codeAny_mono (F.run _ X.stack _ _ ⟨Value.ref (s.heap.objs.size + 1) :: us, ks.zip ws⟩ (g (Value.ref (s.heap.objs.size + 1) :: us) ws) _ _ (E σ) (hr.make C us (ks.zip ws))
    (I2.env0.make C us (ks.zip ws)) (hb.to _ _ ws I2.kIn lu (rz.length.symm.trans l2)) (hb.rel r1 rz) hq) fun r s' hq' => ?_))
  cases r with
  | error e => exact hx pins _ _ e s' I2 hq'
  | ok fl =>
    cases fl with
    | ret u =>
      obtain ⟨v, H', I3, rv, ev, q3⟩ := I2.after hq'
      subst ev
      exact ⟨rv, ⟨V.ref (s.heap.objs.size + 1), H', I3, rfl, q3⟩⟩
    | next => exact False.elim hq'
    | brk => exact False.elim hq'
    | cont => exact False.elim hq'
theorem pe_makeKS {E : L2.St → XK} (M : Mk X.K C f) (F : FnOk X.prog X.w X.K X.mg X.base CX k f fd ps sp) (hr : Room (k + 1) X.A) (hg : Gl X x) (hm : X.mg x = some (.ref C)) (hb : KBn X.K fd ps (n + 1) ks g gV) (hx : ∀ σ, PassesAt CX X σ (E σ)) (ha : PA X (e :: es) t) (hkw : PK X kws tk)
    (hall : (backToKw pos (keywordEach kws X.env)).all (·.1.isSome) = true := by rfl) (hks : (backToKw pos (keywordEach kws X.env)).filterMap (·.1) = ks := by rfl) (hdb : (x == ("__debug__" : Str)) = false := by decide)
    (he : starEach (e :: es) X.env = (false, eval e X.env) :: starEach es X.env := by rfl) (hpl : ((backTo pos (starEach (e :: es) X.env)).any (·.1) || (backToKw pos (keywordEach kws X.env)).any (·.1.isNone)) = false := by rfl) :
    PE X (.Call (.Name x p) (e :: es) kws pos) (tMakeKS C n ks.length sp gV E t tk) := by
  refine ⟨fun pins s σ H Q I h => ?_⟩
  refine wpAny_Call_Name_kw (ld_glob I hg hm ?_ hdb)
  refine PySem.W.callWith_KW (h₀ := X.base) I.ok.mod.kin M.kp hall (thn (ha.run pos pins s σ H _ I h) fun us s1 ⟨vs, H1, I1, r, q⟩ => ?_) hpl he
  refine thn (hkw.run pos pins s1 σ H1 _ I1 q) fun ws s2 ⟨zs, H2, I2, rz, l1, l2, q2⟩ => ⟨I2.kIn, ?_⟩
  rw [hks]
  exact run_makeKS M F hr hb (hx σ) I2 r rz l1 l2 q2
end
/-! two lists: not unlike since their items are the same, or data -/
def rNe2 (K : PySem.W.Frag) : R2 := fun x y H Q => rNeS K x y H Q ∨ rNeD K x y H Q
theorem op_ne2 {X : Cx} (hu : X.A.units + 64 < cLine) : OpR X (compareOp .NotEq) (rNe2 X.K) := by
  intro pins s σ H x y v u Q I rx ry h
  rcases h with h | h
  · exact op_neS hu pins s σ H x y v u Q I rx ry h
  · exact op_neD hu pins s σ H x y v u Q I rx ry h
/-! ### a def whose code object is known: it makes a lambda -/
structure FunC (K : PySem.W.Frag) (x qual : Str) (st : Stmt) (f : Addr) (fd : FuncData) (c : Addr) : Prop where
  ex : ∃ (oc : Value) (od : Option Addr) (kV doc pm : Value) (an : Option Addr) (ct : Value) (osl : Array (Option Value)),
    fd = PySem.W.fnOf x qual (defArgs st) (defBody st) (defScope st) .none kV doc pm an (.ref c) ct ∧ K.lookup f = some ⟨oc, od, .func fd, osl⟩ ∧ PySem.W.codeIn K (.ref c) qual = true
theorem FunC.ok {P : Program} {w : World} {K : PySem.W.Frag} {mg : Str → Option Value} {base : Heap} {x qual : Str} {st : Stmt} {f c : Addr} {fd : FuncData} {N ps : List Str} {k : Nat} {sp : Sp} (F : FunC K x qual st f fd c) (S : FnScope N ps (defScope st)) (len : ∀ vs H Q E, sp vs H Q E → vs.length = ps.length)
    (hbody : ∀ (A : Around) (outer : List Env) (s : Shared) (H : Hp) (vs : List V) (Q : VK) (E : XK), Room k (A.deeper (envOfC qual (defScope st) s.heap.objs.size f (.ref c))) → sp vs H Q E →
      ∃ t, PSs (cxOf CX0 P w K mg base N qual (defScope st) f (.ref c) A outer s H E).nox (defBody st) t ∧ t { nx := fun _ H' => Q .non H', rt := Q } (start N vs) H) : FnOk P w K mg base CX0 (k + 1) f fd ps sp := by
  obtain ⟨oc, od, kV, doc, pm, an, ct, osl, rfl, lk, hcd⟩ := F.ex
  refine fn_of lk hcd S len fun A outer s H vs Q E hr hsp => ?_
  obtain ⟨t, h, q⟩ := hbody A outer s H vs Q E hr hsp
  exact ⟨t, h.nox, q⟩
theorem funOfD {K : PySem.W.Frag} {x qual : Str} {st : Stmt} {kws : List (Str × V)} {f : Addr} {fd : FuncData} (F : FunD K x qual (defArgs st) (defBody st) (defScope st) [] kws f fd) : Fun K x qual st f fd := by
  obtain ⟨oc, od, dV, kV, doc, pm, an, cdv, ct, osl, h1, h2, h3, h4, _⟩ := F.ex
  rcases h4 with ⟨_, rfl⟩ | ⟨e, _⟩
  · exact ⟨⟨oc, od, kV, doc, pm, an, cdv, ct, osl, h1, h2, h3⟩, F.kp⟩
  · exact absurd rfl e
theorem funC_of {K : PySem.W.Frag} {x qual : Str} {st : Stmt} {kws : List (Str × V)} {p : Str × Option Str} {fd : FuncData} (F : FunD K x qual (defArgs st) (defBody st) (defScope st) [] kws (He.fAd K p) fd) : FunC K x qual st (He.fAd K p) fd (He.codeOf K p) := by
  obtain ⟨oc, od, dV, kV, doc, pm, an, cdv, ct, osl, h1, h2, h3, h4, _⟩ := F.ex
  rcases h4 with ⟨_, rfl⟩ | ⟨e, _⟩
  · obtain ⟨c, rfl⟩ := He.codeIn_ref h3
    have hc : He.codeOf K p = c := He.codeOf_eq h2 (by rw [h1])
    rw [hc]
    exact ⟨oc, od, kV, doc, pm, an, ct, osl, h1, h2, h3⟩
  · exact absurd rfl e
end
/-! ### `in` and len by own methods (k06, k08) -/
section
open PySem.Spec PySem.Calls PyProof.Rows
section
variable {X : Cx} {CX : CXT} {k : Nat} {f C : Addr} {fd : FuncData} {ps : List Str} {sp : Sp}
/-- x in y by the own __contains__ of y -/
def rInI (C : Addr) (sp : Sp) (E : XK) : R2 := fun x y H Q => ∃ (a dx : Addr) (fs : List (Str × V)), y = .ref a ∧ H a = some (.ins C dx fs) ∧ sp [.ref a, x] H (fun z H' => ∃ b, z = .bl b ∧ Q (.bl b) H') E
theorem op_inI {E : XK} (F : FnOk X.prog X.w X.K X.mg X.base CX k f fd ps sp) (hr : Room k X.A) (hb : Binds X.K fd ps []) (hs : PySem.W.findIn X.K (.ref C) "__contains__" = some (some (.ref f))) (hf : PySem.W.isFn X.K (.ref f) = true) (hx : Passes CX X E) : OpR X (compareOp .In) (rInI C sp E) := by
  intro pins s σ H x y v u Q I rx ry h
  obtain ⟨a, dx, fs, rfl, ha, q⟩ := h
  cases (show u = Value.ref a from ry)
  obtain ⟨mA, J, _⟩ := ins_get I.hok ha
  obtain ⟨od, J, _⟩ := J.look
  obtain ⟨m, hF⟩ := I.fr
  refine PySem.W.in_K hF I.ok.mod.kin J hs hf ?_
  refine wpAny_mono (run_fn (us := [.ref a, v]) (vs := [.ref a, x]) (ds := []) (dvs := []) F hr hb .nil hx I (.cons rfl (.cons rx .nil)) q) (fun w s' z => ?_) fun _ _ x => x
  obtain ⟨z', H', I', rz, qz⟩ := z
  obtain ⟨b, ez, qz⟩ := qz
  subst ez
  obtain rfl : w = .bool b := rz
  exact wpAny_truthy_bool ⟨.bl b, H', I', rfl, qz⟩
/-- x not in y -/
def rNiI (C : Addr) (sp : Sp) (E : XK) : R2 := fun x y H Q => ∃ (a dx : Addr) (fs : List (Str × V)), y = .ref a ∧ H a = some (.ins C dx fs) ∧ sp [.ref a, x] H (fun z H' => ∃ b, z = .bl b ∧ Q (.bl (!b)) H') E
theorem op_niI {E : XK} (F : FnOk X.prog X.w X.K X.mg X.base CX k f fd ps sp) (hr : Room k X.A) (hb : Binds X.K fd ps []) (hs : PySem.W.findIn X.K (.ref C) "__contains__" = some (some (.ref f))) (hf : PySem.W.isFn X.K (.ref f) = true) (hx : Passes CX X E) : OpR X (compareOp .NotIn) (rNiI C sp E) := by
  intro pins s σ H x y v u Q I rx ry h
  obtain ⟨a, dx, fs, rfl, ha, q⟩ := h
  cases (show u = Value.ref a from ry)
  obtain ⟨mA, J, _⟩ := ins_get I.hok ha
  obtain ⟨od, J, _⟩ := J.look
  obtain ⟨m, hF⟩ := I.fr
  refine PySem.W.notIn_K hF I.ok.mod.kin J hs hf ?_
  refine wpAny_mono (run_fn (us := [.ref a, v]) (vs := [.ref a, x]) (ds := []) (dvs := []) F hr hb .nil hx I (.cons rfl (.cons rx .nil)) q) (fun w s' z => ?_) fun _ _ x => x
  obtain ⟨z', H', I', rz, qz⟩ := z
  obtain ⟨b, ez, qz⟩ := qz
  subst ez
  obtain rfl : w = .bool b := rz
  exact wpAny_truthy_bool ⟨.bl (!b), H', I', rfl, qz⟩
/-- len(x) by the own __len__ of x -/
def rLenI (C : Addr) (sp : Sp) (E : XK) : List V → Hp → VK → Prop := fun xs H Q => ∃ (a dx : Addr) (fs : List (Str × V)), xs = [.ref a] ∧ H a = some (.ins C dx fs) ∧ sp [.ref a] H (fun z H' => ∃ n : Nat, z = .int n ∧ n < 1000000 ∧ Q (.int n) H') E
theorem call_lenI {E : XK} (F : FnOk X.prog X.w X.K X.mg X.base CX k f fd ps sp) (hr : Room (k + 1) X.A) (hb : Binds X.K fd ps []) (hs : PySem.W.findIn X.K (.ref C) "__len__" = some (some (.ref f))) (hf : PySem.W.isFn X.K (.ref f) = true) (hx : Passes CX X E) : CallR X (.builtin "len") (rLenI C sp E) := by
  intro pins s σ H xs us Q I r h
  obtain ⟨a, dx, fs, rfl, ha, q⟩ := h
  obtain ⟨u, rfl, ru⟩ := r.one
  cases (show u = Value.ref a from ru)
  obtain ⟨mA, J, _⟩ := ins_get I.hok ha
  obtain ⟨od, J, _⟩ := J.look
  obtain ⟨m, hF⟩ := I.fr
  have hr2 : Room k X.A.in1 := Room.in1 hr
  have hl := F.len _ _ _ _ q
  refine PySem.W.len_K hF I.ok.mod.kin J hs hf (wpAny_call (codeAny_mono (F.run X.A.in1 X.stack s H ⟨[.ref a], []⟩ [.ref a] [.ref a] _ E hr2 I.env0.in1 (by
    have := hb s [.ref a] I.kIn (by simpa using hl)
    simpa using this) (.cons rfl .nil) q) fun r s' hq => ?_))
  cases r with
  | error e => exact hx pins σ H s e s' I hq
  | ok fl =>
    cases fl with
    | ret w =>
      obtain ⟨z, H', I', rz, qz⟩ := I.after hq
      obtain ⟨n, ez, hn, qz⟩ := qz
      subst ez
      obtain ⟨tk, e⟩ := rz
      cases e
      exact ⟨⟨by omega, by omega⟩, .int n, H', I'.tok _, ⟨_, rfl⟩, qz⟩
    | next => exact False.elim hq
    | brk => exact False.elim hq
    | cont => exact False.elim hq
end
end
/-! ### one dict merged into another within a display (k08, k12, k13) -/
section
open PySem.Spec PySem.Calls PyProof.Rows
section
variable {prog : Program} {w : World} {K : Type} [DecidableEq K] {knd : KeyKind prog w K} {A : Around} {E : Value → Shared → Prop} {s : Shared}
theorem wpAny_dictPut_pairs {d : Addr} {kvs : List (K × Value)} {k : K} {key v : Value} {Q : Unit → Shared → Prop} (hkey : knd.is k key = true) (hm : s.heap.DictOf knd d kvs)
    (hQ : ∀ h', h'.DictOf knd d (stored kvs k v) → Heap.SameBut d s.heap h' → Q () { s with heap := h' })
    (hsz : kvs.length ≤ sizeLine) : wpAny (model prog w) A (dictPut d (knd.hash k) key v) Q E s := by
  obtain ⟨o, es, ep, ho, hc, hd, hk, hp, hn⟩ := hm
  have hes : es.size ≤ sizeLine := by
    have e1 := hp.length
    have e2 : es.toList.length = es.size := by simp
    omega
  unfold dictPut
  refine wpAny_bind (wpAny_dictFind_of hkey ho hd hk ?_)
  have hidx : (es.findIdx? fun e => knd.is k e.key) = kvs.findIdx? fun kv => decide (kv.1 = k) := by
    rw [← hp.findIdx k]; obtain ⟨l⟩ := es; simp
  cases hi : es.findIdx? fun e => knd.is k e.key with
  | some i =>
    refine wpAny_updateDict ho hd (hQ _ ⟨_, _, ep, Heap.get?_update_self _ ho (Obj.isFreed_of_dict (Obj.data_mapDict hd _)), hc.mapDict _, Obj.data_mapDict hd _, hk.modify _ _, ?_, ?_⟩ (Heap.SameBut.update ..))
    · rw [stored, if_pos (any_of_findIdx_some (hidx ▸ hi))]
      have hl : (es.toList.findIdx? fun e => knd.is k e.key) = some i := by rw [← hi]; obtain ⟨l⟩ := es; simp
      have := hp.modify hn hl v
      obtain ⟨l⟩ := es
      simpa using this
    · rw [stored, if_pos (any_of_findIdx_some (hidx ▸ hi)), keys_map_store]
      exact hn
  | none =>
    have hnot : k ∉ kvs.map (·.1) := not_mem_of_findIdx_none (hidx ▸ hi)
    have hany : ¬ (kvs.any fun kv => decide (kv.1 = k)) = true := by
      rw [List.any_eq_true]; rintro ⟨kv, hkv, he⟩
      exact hnot (List.mem_map.mpr ⟨kv, hkv, of_decide_eq_true he⟩)
    refine wpAny_updateDictKeys (hz := hes) ho hd (hQ _ ⟨_, _, ep + 1, Heap.get?_update_self _ ho (Obj.isFreed_of_dict (Obj.data_mapDictKeys hd _)), hc.mapDictKeys _, Obj.data_mapDictKeys hd _, hk.push hkey _, ?_, ?_⟩ (Heap.SameBut.update ..))
    · rw [stored, if_neg hany]
      have := hp.append hkey (knd.hash k) v
      obtain ⟨l⟩ := es
      simpa using this
    · rw [stored, if_neg hany, List.map_append, List.nodup_append]
      refine ⟨hn, by simp, fun a ha b hb e => ?_⟩
      simp only [List.map_cons, List.map_nil, List.mem_singleton] at hb
      exact hnot (by rw [← hb, ← e]; exact ha)
theorem wpAny_mergeMap {d a : Addr} {kvs more : List (K × Value)} {Q : Unit → Shared → Prop} (hda : d ≠ a) (haS : (a == sysModules) = false) (hd : s.heap.DictOf knd d kvs) (ha : s.heap.DictOf knd a more)
    (hQ : ∀ h', h'.DictOf knd d (merged kvs more) → Heap.SameBut d s.heap h' → Q () { s with heap := h' }) (hsz : kvs.length + more.length ≤ sizeLine) : wpAny (model prog w) A (mergeMapping d (.ref a) false) Q E s := by
  obtain ⟨od, esd, epd, hod, hcd, hdd, hkd, hpd, hnd⟩ := id hd
  obtain ⟨oo, eso, epo, hoo, hco, hdo', hko, hpo, hno⟩ := id ha
  have hlen : more.length = eso.size := by rw [← hpo.length]; simp
  unfold mergeMapping
  refine wpAny_bind (wpAny_isInstance (T := "dict") (b := true) ha.typeIs (by first | exact PySem.F.sub_dict_dict | (rw [isSubtype_type_eq]; kernel_rfl) | kernel_rfl | rfl) ?_)
  dsimp only
  rw [if_pos rfl]
  refine wpAny_bind (wpAny_specialOf ha.typeIs PySem.F.slot_dict_iter.lookup ?_)
  have hb : (some (Value.builtin "dict.__iter__") == some (Value.builtin "dict.__iter__")) = true := by decide
  rw [hb]
  refine wpAny_bind (wpAny_pure ?_)
  dsimp only
  rw [haS, if_neg Bool.false_ne_true]
  refine wpAny_bind (wpAny_dictEntries hod hdd ?_)
  have hq : (forIn eso PUnit.unit fun e (_ : PUnit) => (match e.key with
      | Value.ref a => do
        let l ← specialOf e.key (Str.ofString "__eq__")
        if (l != some (Value.builtin "object.__eq__")) = true then
            if (Array.filter (fun x => x.hash == e.hash) eso).size > 1 then do
              (unsupported "dict.merge-into-an-empty-dict:keys-of-equal-hash" : Sem PUnit)
              pure (ForInStep.yield PUnit.unit)
            else pure (ForInStep.yield PUnit.unit)
          else pure (ForInStep.yield PUnit.unit)
      | x => pure (ForInStep.yield PUnit.unit) : Sem (ForInStep PUnit))) = pure PUnit.unit := by
    rw [← Array.forIn_toList]
    refine forIn_yield_id _ fun e he c => ?_
    obtain ⟨k, hkey, _⟩ := hko e (Array.mem_toList_iff.mp he)
    have hv := knd.byValue k _ hkey
    cases q : e.key with
    | ref b =>
      rw [q] at hv
      cases hv
    | _ => rfl
  have loop : wpAny (model prog w) A (do
      let l ← dictEntries a
      let epoch ← dictEpoch a
      forIn (List.range l.size) PUnit.unit fun i (_ : PUnit) => (do
          let l ← dictEntries a
          match l[i]? with
            | some e => do
              holding [e.key, e.val] (if false = true then do
                  let l ← dictFind d e.key e.hash
                  if l.isSome = true then do
                      rule "dict.merge.duplicate-key"
                      let l ← newExc (Value.type "KeyError") [e.key]
                      let _ ← (raiseNew l : Sem PUnit)
                      dictPut d e.hash e.key e.val
                    else dictPut d e.hash e.key e.val
                else dictPut d e.hash e.key e.val)
              let l ← dictEpoch a
              if (l != epoch) = true then do
                  (unsupported "dict.changed-during-merge" : Sem PUnit)
                  pure (ForInStep.yield PUnit.unit)
                else pure (ForInStep.yield PUnit.unit)
            | x => do
              (unsupported "dict.changed-during-merge" : Sem PUnit)
              pure (ForInStep.yield PUnit.unit) : Sem (ForInStep PUnit))
      pure ()) Q E s := by
    refine wpAny_bind (wpAny_dictEntries hoo hdo' ?_)
    refine wpAny_bind (wpAny_dictEpoch hoo hdo' ?_)
    refine wpAny_bind ?_
    rw [List.range_eq_range']
    refine wpAny_forIn_list _
      (fun rest _ s' => ∃ h' i, s' = { s with heap := h' } ∧ rest = List.range' i (eso.size - i) ∧ i ≤ eso.size ∧ h'.DictOf knd d (merged kvs (more.take i)) ∧ h'.get? a = some oo ∧ Heap.SameBut d s.heap h')
      _ ?_ ?_ _ _ ⟨s.heap, 0, rfl, by simp, Nat.zero_le _, by simpa [merged] using hd, hoo, Heap.SameBut.refl _ _⟩
    · rintro x rest b s' ⟨h', i, rfl, hr, hi, hd', hoo', hs'⟩
      have hlt : i < eso.size := by
        rcases Nat.lt_or_ge i eso.size with h | h
        · exact h
        · rw [Nat.sub_eq_zero_of_le h] at hr; simp at hr
      obtain ⟨rfl, hrest⟩ : x = i ∧ rest = List.range' (i + 1) (eso.size - (i + 1)) := by
        have e : eso.size - i = (eso.size - (i + 1)) + 1 := by omega
        rw [e, List.range'_succ] at hr
        injection hr with h1 h2
        exact ⟨h1, h2⟩
      refine wpAny_bind (wpAny_dictEntries hoo' hdo' ?_)
      rw [Array.getElem?_eq_getElem hlt]
      obtain ⟨kv, hkv⟩ : ∃ kv, more[x]? = some kv := ⟨more[x]'(by rw [hlen]; exact hlt), List.getElem?_eq_getElem _⟩
      obtain ⟨k, v⟩ := kv
      obtain ⟨hkey, hval⟩ := hpo.get? (e := eso[x]) (by simp [hlt]) hkv
      obtain ⟨k', hkey', hhash⟩ := hko eso[x] (Array.getElem_mem hlt)
      obtain rfl : k' = k := knd.inj _ _ _ hkey' hkey
      dsimp only
      rw [if_neg Bool.false_ne_true, hhash, hval]
      have hmx : (merged kvs (more.take x)).length ≤ sizeLine := by
        have e1 := merged_length_le kvs (more.take x)
        have e2 : (more.take x).length ≤ more.length := by rw [List.length_take]; omega
        omega
      refine wpAny_bind (wpAny_holding (wpAny_dictPut_pairs hkey hd' (fun h'' hd'' hs'' => ?_) hmx))
      have hoo'' : h''.get? a = some oo := (hs''.2 a (Ne.symm hda)).trans hoo'
      refine wpAny_bind (wpAny_dictEpoch hoo'' hdo' ?_)
      rw [if_neg (by simp)]
      exact wpAny_pure ⟨h'', x + 1, rfl, hrest, hlt, by rw [merged_take_succ kvs more x (k', v) hkv]; exact hd'', hoo'', hs'.trans hs''⟩
    · rintro b s' ⟨h', i, rfl, hr, hi, hd', hoo', hs'⟩
      have hin : i = eso.size := by
        rcases Nat.lt_or_ge i eso.size with h | h
        · have e : eso.size - i = (eso.size - (i + 1)) + 1 := by omega
          rw [e, List.range'_succ] at hr; exact nomatch hr
        · exact Nat.le_antisymm hi h
      refine wpAny_pure (hQ h' ?_ hs')
      rw [hin, ← hlen, List.take_length] at hd'
      exact hd'
  split
  · refine wpAny_bind (wpAny_dictEntries hoo hdo' ?_)
    exact wpAny_bind (wpAny_of_eq hq loop)
  · exact loop
end
end
section
open PySem.Spec PySem.Calls PyProof.Rows
/-- {**e, k: v}: the new dict stands empty while e is read; the pair stands in a dict of its own -/
def tDStar (te tk tv : TE) : TE := fun σ H Q => ∀ d, H d = none → te σ (upd H d (.dK [])) fun x H1 => ∃ (a : Addr) (kvs : List (Key × V)), x = .ref a ∧ Rd H1 a (.dK kvs) ∧ H1 d = some (.dK []) ∧ a ≠ d ∧ kvs.length ≤ 1000 ∧
  ∀ d2, upd H1 d (.dK (mergeK [] kvs)) d2 = none → tk σ (upd (upd H1 d (.dK (mergeK [] kvs))) d2 (.dK [])) fun y H2 => tv σ H2 fun z H3 => ∃ kk : Key, y = kV kk ∧ H3 d2 = some (.dK []) ∧ H3 d = some (.dK (mergeK [] kvs)) ∧ d2 ≠ d ∧
    Q (.ref d) (upd (upd H3 d2 (.dK [(kk, z)])) d (.dK (putK (mergeK [] kvs) kk z)))
theorem pe_dstar {X : Cx} {pos : Pos} {e k v : Expr} {te tk tv : TE} (he : PE X e te) (hk : PE X k tk) (hv : PE X v tv) : PE X (.Dict [none, some k] [e, v] pos) (tDStar te tk tv) := by
  refine ⟨fun pins s σ H Q I h => ?_⟩
  rw [arm_eval_Dict]
  refine wpAny_bind (wpAny_standAt ?_)
  have hz : (evalEachOpt [none, some k] X.env).zip ((evalEach [e, v] X.env).map fun v => do let x ← v; standAt pos; pure x) = [(none, do let x ← eval e X.env; standAt pos; pure x), (some (eval k X.env), do let x ← eval v X.env; standAt pos; pure x)] := rfl
  rw [hz]
  unfold dictDisplay
  simp only [List.forIn_cons, List.forIn_nil, List.isEmpty_nil, if_true, List.nil_append, pure_bind]
  refine wpAny_bind (wpAny_bind (wpAny_bind (wpAny_alloc ?_)))
  have hn := I.hok.fresh (Nat.le_refl s.heap.objs.size)
  have I1 := I.laid (a := s.heap.objs.size) (o := .dK []) (h' := s.heap.push { cls := .type "dict", data := .dict #[] }) (t' := s.toks) (fun _ _ q => Heap.get?_push_of_some _ q) (Nat.le_refl _) (dk_empty s.heap I.big)
  refine wpAny_bind (wpAny_holding (wpAny_bind (thn (he.run pins _ σ _ _ I1 (h _ hn)) fun u s2 ⟨x, H1, I2, rx, a, kvs, ex, ra, e1, nad, hzl, q⟩ => wpAny_bind (wpAny_standAt (wpAny_pure ?_)))))
  subst ex
  obtain rfl : u = Value.ref a := rx
  generalize s.heap.objs.size = d at *
  obtain ⟨_, haS, vsA, relA, ddA⟩ := dk_rd I2.hok ra
  obtain ⟨_, hdS, vs0, r0, dd0⟩ := dk_of I2.hok e1
  cases r0
  have lA : vsA.length = kvs.length := relA.length.symm
  refine wpAny_bind (wpAny_onRaise (wpAny_tryCatch (wpAny_onRaise (wpAny_holding (wpAny_mergeMap (Ne.symm nad) haS dd0 ddA (fun h' dd' hs => ?_) (by
    have : (1000 : Nat) ≤ sizeLine := by decide
    rw [List.length_nil]
    omega))))))
  have hzm : (mergeK [] kvs).length ≤ sizeLine := by
    have h1 := length_mergeK kvs []
    rw [List.length_nil] at h1
    have : (1000 : Nat) ≤ sizeLine := by decide
    omega
  have hex : ∃ q, h'.get? d = some q := let ⟨q, _, _, hq, _⟩ := dd'; ⟨q, hq⟩
  have I3 := d_write (t' := s2.toks) I2 (by rw [e1]; exact True.intro) hs hex (dk_new hzm hdS (relA.merge .nil) dd')
  refine wpAny_pure ?_
  dsimp only
  rw [if_neg (by simp)]
  refine wpAny_bind (wpAny_pure (wpAny_pure ?_))
  dsimp only [List.nil_append]
  rw [if_neg (by simp)]
  have hn2 := I3.hok.fresh (Nat.le_refl h'.objs.size)
  have I4 := I3.laid (a := h'.objs.size) (o := .dK []) (h' := h'.push { cls := .type "dict", data := .dict #[] }) (t' := s2.toks) (fun _ _ q => Heap.get?_push_of_some _ q) (Nat.le_refl _) (dk_empty h' I3.big)
  refine wpAny_bind (wpAny_bind (wpAny_holding (wpAny_subDict (knd := mixKind X.prog X.w) (by simp) ?_)))
  refine evalPairs_cons (thn (hk.run pins _ σ _ _ I4 (q _ hn2)) fun u s4 ⟨y, H2, I5, ry, q2⟩ => wpAny_bind (thn (hv.run pins s4 σ H2 _ I5 q2) fun w5 s5 ⟨z, H3, I6, rz, kk, ey, e2, e3, nd, qf⟩ => wpAny_bind (wpAny_standAt (wpAny_pure (evalPairs_nil ?_)))))
  subst ey
  have rel : VV ([(kk, z)].map fun kv : Key × V => (kV kv.1, kv.2)) [(u, w5)] := .cons ⟨ry, rz⟩ .nil
  obtain ⟨rs, c, rk⟩ := carries_of (P := X.prog) (w := X.w) rel
  generalize h'.objs.size = d2 at *
  obtain ⟨_, hdS2, vs2, r2, dd2⟩ := dk_of I6.hok e2
  cases r2
  refine ⟨rs, c, dd2, fun h3 dd3 hs3 => ?_⟩
  have hex3 : ∃ q, h3.get? d2 = some q := let ⟨q, _, _, hq, _⟩ := dd3; ⟨q, hq⟩
  have I7 := d_write (t' := s5.toks + 1) I6 (by rw [e2]; exact True.intro) hs3 hex3 (dk_new (kvs := mergeK [] [(kk, z)]) (show (1 : Nat) ≤ sizeLine by decide) hdS2 (rk.merge .nil) dd3)
  have e7 : (upd H3 d2 (.dK (mergeK [] [(kk, z)]))) d = some (.dK (mergeK [] kvs)) := by
    rw [upd_ne (Ne.symm nd)]
    exact e3
  obtain ⟨_, hdS7, vs7, r7, dd7⟩ := dk_of I7.hok e7
  obtain ⟨_, _, vs8, r8, dd8⟩ := dk_of I7.hok (a := d2) upd_same
  have l7 : vs7.length ≤ 1000 := by
    have h1 := length_mergeK kvs []
    rw [List.length_nil] at h1
    have h2 : vs7.length = (mergeK [] kvs).length := r7.length.symm
    omega
  have l8 : vs8.length = 1 := r8.length.symm
  have big : (2000 : Nat) ≤ sizeLine := by decide
  refine wpAny_bind (wpAny_onRaise (wpAny_holding (wpAny_mergeMap (Ne.symm nd) hdS2 dd7 dd8 (fun h4 dd4 hs4 => ?_) (by omega))))
  have hex4 : ∃ q, h4.get? d = some q := let ⟨q, _, _, hq, _⟩ := dd4; ⟨q, hq⟩
  have hz4 : (mergeK (mergeK [] kvs) (mergeK [] [(kk, z)])).length ≤ sizeLine := by
    have h1 := length_mergeK (mergeK [] [(kk, z)]) (mergeK [] kvs)
    have h2 : (mergeK [] [(kk, z)] : List (Key × V)).length = 1 := rfl
    have h3 := length_mergeK kvs []
    rw [List.length_nil] at h3
    omega
  have I8 := d_write (t' := s5.toks + 1) I7 (by rw [e7]; exact True.intro) hs4 hex4 (dk_new hz4 hdS (r8.merge r7) dd4)
  exact wpAny_pure (wpAny_pure ⟨.ref d, _, I8, rfl, qf⟩)
end
/-! ### raising where the context of what is raised is None (layer L2N) -/
section
open PySem.Spec PySem.Calls PyProof.Rows
theorem passLN {X : Cx} : Passes (L2N.CX X.prog X.w) X E0 := fun _ _ _ _ _ _ _ got => by
  obtain ⟨_, _, _, _, _, _, _, _, _, _, _, _, bad⟩ := got
  exact bad.elim
theorem passCN {X : Cx} {E : XK} (tk : L2N.Takes X (fun cls d _ H => E cls d H)) : Passes (L2N.CX X.prog X.w) X E := L2N.passes_call tk fun _ _ _ _ q => q
theorem passAtN {X : Cx} {W : WX} (tk : L2N.Takes X W) (σ : L2.St) : PassesAt (L2N.CX X.prog X.w) X σ (WE W σ) := fun _ _ _ u t J q => tk u t (L2N.XE.of_call J (fun _ _ _ z => z) q)
section
variable {P : Program} {w : World} {K : PySem.W.Frag} {mg : Str → Option Value} {base : Heap}
theorem okXN {x qual : Str} {st : Stmt} {f : Addr} {fd : FuncData} {N ps : List Str} {k : Nat} {sp : Sp} (F : Fun K x qual st f fd) (S : FnScope N ps (defScope st)) (hl : ∀ vs H Q E, sp vs H Q E → vs.length = ps.length)
    (body : ∀ (cdv : Value) (A : Around) (outer : List Env) (s : Shared) (H : Hp) (vs : List V) (Q : VK) (E : XK), Room k (A.deeper (envOfC qual (defScope st) s.heap.objs.size f cdv)) → sp vs H Q E →
      ∃ t, PSs (cxOf (L2N.CX P w) P w K mg base N qual (defScope st) f cdv A outer s H E) (defBody st) t ∧ t { nx := fun _ H' => Q .non H', rt := Q } (L2.start N vs) H) : FnOk P w K mg base (L2N.CX P w) (k + 1) f fd ps sp := by
  obtain ⟨_, _, _, _, _, _, c, _, _, rfl, found, isC⟩ := F.ex
  exact fn_of found isC S hl fun A outer s H vs Q E room q => body c A outer s H vs Q E room q
end
section
variable {P : Program} {w : World} {K : PySem.W.Frag} {mg : Str → Option Value} {base : Heap}
/-- a def that is called within an except suite -/
theorem okHot {CX : CXT} {x qual : Str} {st : Stmt} {f : Addr} {fd : FuncData} {N ps : List Str} {k : Nat} {sp : Sp} (F : Fun K x qual st f fd) (S : FnScope N ps (defScope st)) (hl : ∀ vs H Q E, sp vs H Q E → vs.length = ps.length)
    (body : ∀ (cdv : Value) (A : Around) (outer : List Env) (s : Shared) (H : Hp) (vs : List V) (Q : VK) (E : XK) (p : Addr × Obj), sp vs H Q E →
      ∃ t, PSs (L2H.cxH CX P w K mg base N qual (defScope st) f cdv A outer s H E p) (defBody st) t ∧ t { nx := fun _ H' => Q .non H', rt := Q } (L2.start N vs) H) : L2H.FnH P w K mg base CX (k + 1) f fd ps sp := by
  obtain ⟨_, _, _, _, _, _, c, _, _, rfl, found, isC⟩ := F.ex
  exact L2H.fn_ofH found isC S hl fun A outer s H vs Q E p _ _ q => body c A outer s H vs Q E p q
end
theorem pmkN_oex {X : Cx} {CX : CXT} {x : Str} {e : Expr} {es : List Expr} {ta : TA} {p pos : Pos} {C fI : Addr} {k : Nat} {fd : FuncData} {ps : List Str} {sp : Sp} (T : OexC X.K C) (ini : PySem.W.findIn X.K (.ref C) "__init__" = some (some (.ref fI))) (fn : PySem.W.typeIn X.K (.ref fI) = some (.type "function"))
    (F1 : FnOk X.prog X.w X.K X.mg X.base CX k fI fd ps sp) (room : Room (k + 1) X.A) (bnd : Binds X.K fd ps []) (px : Passes CX X (fun _ _ _ => False)) (gl : Gl X x) (m : X.mg x = some (.ref C)) (arg : PA X (e :: es) ta)
    (h1 : (x == ("__debug__" : Str)) = false := by decide) (h2 : starEach (e :: es) X.env = (false, eval e X.env) :: starEach es X.env := by rfl) (h3 : (backTo pos (starEach es X.env)).any (·.1) = false := by rfl) : L2N.PMk X (.Call (.Name x p) (e :: es) [] pos) (tMkO C sp [] ta) := by
  intro pins s σ H Q I want
  obtain ⟨_, _, _, _, bm, _, _, _, _, _, _, _, _, _, _, inC, hbm⟩ := T.cls
  apply wpAny_Call_Name_kw
  refine ld_glob I gl m ?_ h1
  refine PySem.W.callWith_K (h₀ := X.base) I.ok.mod.kin T.kC ?_ h2 h3
  refine thn (arg.run pos pins s σ H _ I want) fun us s1 got => ?_
  obtain ⟨vs, H1, I1, rv, few, q1⟩ := got
  refine ⟨I1.kIn, ?_⟩
  obtain ⟨hp, gs, dr, tk, os⟩ := s1
  let a : Addr := hp.objs.size + 1
  have le : hp.objs.size ≤ a := Nat.le_succ _
  have fresh : H1 a = none := I1.hok.fresh le
  have q2 := q1 a fresh
  rw [List.append_nil] at q2
  let hp2 : Heap := (hp.push (PySem.W.kdv_tup us)).push (PySem.HandSPX.excO C hp.objs.size)
  have kept : ∀ b o, hp.get? b = some o → hp2.get? b = some o := fun b o z => Heap.get?_push_of_some _ (Heap.get?_push_of_some _ z)
  have there : hp2.get? a = some (PySem.HandSPX.excO C hp.objs.size) := by
    show ((hp.push (PySem.W.kdv_tup us)).push (PySem.HandSPX.excO C hp.objs.size)).get? (hp.objs.size + 1) = _
    heap_get
  have I2 : Inv X pins σ (upd H1 a (exo a C none)) ⟨hp2, gs, dr, tk, os⟩ := I1.laid (t' := tk) (a := a) (o := exo a C none) (h' := hp2) kept le (exo_ok there)
  have rv2 : Vals (V.ref a :: vs) (Value.ref a :: us) := .cons rfl rv
  have ln : (Value.ref a :: us ++ []).length = ps.length := by
    have z := rv2.length
    rw [F1.len _ _ _ _ q2] at z
    rw [List.append_nil]
    exact z.symm
  have small : us.length ≤ sizeLine := by
    rw [← Paired.length rv]
    exact Nat.le_trans few (by decide)
  have bd := bnd _ (Value.ref a :: us) I2.kIn ln
  rw [List.append_nil] at bd
  refine wpAny_call (PySem.HandSPX.call_own F.excBase_ValueError (fun Y => PySem.HandSPX.refsVE_contains Y bm hbm) (I1.kIn _ _ inC) (PySem.W.looks_findIn I1.kIn ini) (fun self => PySem.W.bind_fn I1.kIn self fn) small ?_)
  refine codeAny_mono (F1.run _ X.stack _ _ ⟨Value.ref a :: us, []⟩ (Value.ref a :: us) _ _ (fun _ _ _ => False) (room.make C us []) (I2.env0.make C us []) bd rv2 q2) fun r s2 gr => ?_
  cases r with
  | error er => exact px pins σ _ _ er s2 I2 gr
  | ok fl =>
    cases fl with
    | next => exact gr.elim
    | brk => exact gr.elim
    | cont => exact gr.elim
    | ret u =>
      obtain ⟨v, H2, os2, bare, un, hok, ru, ev, d, fs, ea, ed, fd1, q3⟩ := gr
      subst ev
      obtain ⟨h5, g5, d5, t5, o5⟩ := s2
      obtain ⟨_, G, J, kG, ge, hoe, na⟩ := mk_end0 (d2 := d5) (t2 := t5) I1 le kept un hok os2 bare ea ed fd1
      refine ⟨ru, a, _, _, ⟨G, g5, d5, t5, o5⟩, _, .ref C, some d, rfl, J, kG, ge, hoe, ⟨rfl, rfl, fun ws hw => ?_⟩, rfl, rfl, na, rfl, bare, raises_own T.exC T.tyC, q3⟩
      cases hw
      rfl
end
/-! ### sorted(xs), xs a list of tuples (text, whatever), no text twice -/
section
open PySem.Spec PySem.Calls PyProof.Rows
variable {prog : Program} {w : World} {A : Around} {s : Shared}
def IsTS (h : Heap) (v : Value) (x : Str) : Prop := ∃ a o t u n, v = .ref a ∧ h.get? a = some o ∧ o.cls = .type "tuple" ∧ o.data = .seq #[.str x t, u] n
theorem IsTS.keeps {h h' : Heap} {v : Value} {x : Str} (p : IsTS h v x) (k : ∀ b o, h.get? b = some o → o.cls = .type "tuple" → h'.get? b = some o) : IsTS h' v x := by
  obtain ⟨a, o, t, u, n, e, ho, hc, hd⟩ := p
  exact ⟨a, o, t, u, n, e, k _ _ ho hc, hc, hd⟩
theorem ts_firsts {h : Heap} : ∀ {vs : List Value}, (∀ v ∈ vs, ∃ x, IsTS h v x) → ∃ fs : List Value, PySem.W.KatTups h vs fs ∧ fs.length = vs.length ∧ ∀ f ∈ fs, ∃ x t, f = Value.str x t
  | [], _ => ⟨[], PySem.W.KatTups.nil, rfl, fun _ hm => by simp at hm⟩
  | v :: vs, hp => by
    obtain ⟨fs, h1, h2, h3⟩ := ts_firsts (vs := vs) fun v' hm => hp v' (List.mem_cons_of_mem _ hm)
    obtain ⟨x, a, o, t, u, n, e, ho, hc, hd⟩ := hp v (List.mem_cons_self ..)
    subst e
    refine ⟨.str x t :: fs, PySem.W.KatTups.cons ho hc hd rfl h1, by rw [List.length_cons, List.length_cons, h2], fun f hm => ?_⟩
    rcases List.mem_cons.mp hm with rfl | hm
    · exact ⟨x, t, rfl⟩
    · exact h3 f hm
def ltTS (x y : Str) : Bool := decide (x.cps.toList < y.cps.toList)
theorem ltTS_no {x y : Str} : ltTS x y = false ↔ y.cps.toList ≤ x.cps.toList := by
  unfold ltTS
  rw [decide_eq_false_iff_not, List.not_lt]
theorem swo_ts {α : Type} (k : α → Str) : SrtO.Swo fun v u => ltTS (k v) (k u) := by
  refine ⟨fun x y h => ?_, fun x y z h1 h2 => ?_⟩
  · refine ltTS_no.mpr (List.le_of_lt (of_decide_eq_true h))
  · exact ltTS_no.mpr (List.le_trans (ltTS_no.mp h1) (ltTS_no.mp h2))
theorem ts_cmp {vs : List Value} {k : Value → Str} (hp : ∀ v ∈ vs, IsTS s.heap v (k v)) (inj : ∀ v ∈ vs, ∀ u ∈ vs, k v = k u → v = u) : SrtO.Cmp prog w A s (tuples' true) (fun p => p.1 ∈ vs) (SrtO.lt2 fun v u => ltTS (k v) (k u)) := by
  intro p q hm hm'
  have h1 := hp _ hm
  have h2 := hp _ hm'
  show wpAny (model prog w) A (keyLt' (tuples' true) p.1 q.1) (fun r s' => s' = s ∧ r = ltTS (k p.1) (k q.1)) (fun _ _ => False) s
  by_cases e0 : k p.1 = k q.1
  · have e := inj _ hm _ hm' e0
    have el : ltTS (k p.1) (k q.1) = false := by
      rw [← e0]
      exact decide_eq_false (List.lt_irrefl _)
    rw [el, ← e]
    generalize k p.1 = x at h1
    obtain ⟨a, o, t, u, n, e, ho, hc, hd⟩ := h1
    rw [e]
    refine PySem.W.kat_lt ho hd ho hd ?_
    show PySem.W.KatLex prog w A true (decide (2 < 2)) _ [(.str x t, .str x t), (u, u)] 0 s
    refine PySem.W.kat_cons (SeqAt.EqAt.same _ prog w _ _ ?_)
    refine PySem.W.kat_yes (PySem.W.kat_cons (SeqAt.EqAt.same _ prog w _ _ ?_))
    exact PySem.W.kat_yes (PySem.W.kat_nil ⟨rfl, rfl⟩)
  · generalize k p.1 = x at h1 e0 ⊢
    generalize k q.1 = x' at h2 e0 ⊢
    obtain ⟨a, o, t, u, n, e, ho, hc, hd⟩ := h1
    obtain ⟨a', o', t', u', n', e', ho', hc', hd'⟩ := h2
    rw [e, e']
    refine PySem.W.kat_lt ho hd ho' hd' ?_
    show PySem.W.KatLex prog w A true (decide (2 < 2)) _ [(.str x t, .str x' t'), (u, u')] 0 s
    refine PySem.W.kat_cons (SeqAt.EqAt.str_str x t x' t' prog w _ _ ?_)
    rw [beq_eq_false_iff_ne.mpr e0]
    exact PySem.W.kat_no (oneLt_any_str ⟨rfl, rfl⟩)
theorem ts_sortable {a : Addr} {vs : List Value} {k : Value → Str} (h0 : 0 < vs.length) (hp : ∀ v ∈ vs, IsTS s.heap v (k v)) (inj : ∀ v ∈ vs, ∀ u ∈ vs, k v = k u → v = u) (ha : ∀ o, s.heap.get? a = some o → o.cls ≠ .type "tuple") : SrtO.SortableO prog w A s a vs fun v u => ltTS (k v) (k u) := by
  intro h' keep
  have hp' : ∀ v ∈ vs, IsTS h' v (k v) := fun v hm => (hp v hm).keeps fun b o e c => keep b o (fun z => by subst z; exact ha o e c) e
  obtain ⟨fs, h1, h2, h3⟩ := ts_firsts fun v hm => ⟨_, hp' v hm⟩
  refine ⟨tuples' true, fun Q E hq => ?_, ts_cmp hp' inj⟩
  refine PySem.W.kat_kind (T := .type "str") h1 (by omega) (fun f hm => ?_) (by rfl) ?_
  · obtain ⟨x, t, rfl⟩ := h3 f hm
    exact PySem.W.Looks.now
  · have e : (Value.type "str" != Value.type "tuple") = true := by first | decide +kernel | rfl | decide
    rw [e]
    exact hq
theorem sorted_ts {l : Addr} {vs : List Value} {k : Value → Str} {Q E : Value → Shared → Prop} (hl : s.heap.IsList l vs.toArray) (hz : vs.length ≤ sizeLine) (hp : ∀ v ∈ vs, IsTS s.heap v (k v)) (inj : ∀ v ∈ vs, ∀ u ∈ vs, k v = k u → v = u)
    (h : ∀ (h' : Heap) (d : Addr) (out : List Value), SrtO.Srtd (fun v u => ltTS (k v) (k u)) out → SrtO.Stb (fun v u => ltTS (k v) (k u)) out vs → (∀ b o, s.heap.get? b = some o → h'.get? b = some o) → s.heap.objs.size ≤ d → (∃ n, h'.get? d = some (seqObj "list" out.toArray n)) → Q (.ref d) { s with heap := h' }) :
    wpAny (model prog w) A (call (.builtin "sorted") [.ref l]) Q E s := by
  refine SrtO.sorted_ord (swo_ts k) hl hz (fun h2 h₁ a ha kk => ?_) fun out hs hb => ?_
  · refine ts_sortable (s := { s with heap := h₁ }) (by omega) (fun v hm => (hp v hm).keeps fun b o e _ => (kk b o e).2) inj fun o e => ?_
    have e' : some o = some (seqObj "list" vs.toArray 0) := e.symm.trans ha
    cases e'
    intro c
    exact absurd (Value.type.inj c) (by decide)
  · exact h _ _ out hs hb (fun b o e => sortedAll_old e) (Nat.le_succ _) (sortedAll_at s.heap vs out.toArray)
end
/-- sorted(xs): xs a list of tuples (text, whatever), no text twice -/
def rSortedTS (K : PySem.W.Frag) : List V → Hp → VK → Prop := fun vs H Q => ∃ (a : Addr) (xs : List V) (k : V → Str), vs = [V.ref a] ∧ SqL K H a xs ∧ (∀ x ∈ xs, ∃ t z, x = V.ref t ∧ H t = some (.tup [.str (k x), z])) ∧ (∀ x ∈ xs, ∀ y ∈ xs, k x = k y → x = y) ∧
  ∀ ys p, SrtO.Srtd (fun x y => ltTS (k x) (k y)) ys → ys.Perm xs → H p = none → Q (.ref p) (upd H p (.lst ys))
section
open PySem.Spec PySem.Calls PyProof.Rows
theorem cr_sortedTS {X : Cx} : CallR X (.builtin "sorted") (rSortedTS X.K) := by
  intro pins s σ H vs us Q I r h
  obtain ⟨a, xs, k, rfl, hs, hx, inj, q⟩ := h
  obtain ⟨its, rv, hl, hz⟩ := I.list hs
  obtain ⟨u, rfl, ru⟩ := vals1 r
  obtain rfl : u = Value.ref a := ru
  obtain ⟨e1, e2⟩ := refs_back rv fun x m => by
    obtain ⟨t, _, e, _⟩ := hx x m
    exact ⟨t, e⟩
  have hm : ∀ v ∈ its, backV v ∈ xs := fun v hv => by rw [e1]; exact List.mem_map.mpr ⟨_, hv, rfl⟩
  refine sorted_ts (k := fun u => k (backV u)) hl.isList (by rw [← rv.length]; exact hz) (fun v hv => ?_) (fun v hv u hu e => ?_) fun h' d out h1 h2 kp hd hn => ?_
  · have hm := hm v hv
    obtain ⟨t, rfl⟩ := e2 v hv
    obtain ⟨t', z, e, ht⟩ := hx _ hm
    cases e
    obtain ⟨_, its2, r2, o, ho, hc, n, hd⟩ := I.hok _ _ ht
    obtain ⟨u1, u2, rfl, ri, rj⟩ := vals2 r2
    obtain ⟨t1, rfl⟩ := ri
    exact ⟨t, o, t1, u2, n, rfl, ho, hc, hd⟩
  · have e := inj _ (hm v hv) _ (hm u hu) e
    obtain ⟨t, rfl⟩ := e2 v hv
    obtain ⟨t', rfl⟩ := e2 u hu
    cases e
    rfl
  · have h3 : ∀ u ∈ out, ∃ a, u = Value.ref a := fun u hu => e2 u (h2.perm.mem_iff.mp hu)
    obtain ⟨n, hn⟩ := hn
    have hb : (out.map backV).Perm xs := by
      rw [e1]
      exact h2.perm.map _
    refine ⟨.ref d, upd H d (.lst (out.map backV)), I.laid (t' := s.toks) kp hd ⟨?_, out, n, vals_back h3, hn⟩, rfl, q _ d ?_ hb (I.hok.fresh hd)⟩
    · rw [hb.length_eq]
      exact hz
    · exact SrtO.srtd_map (lt := fun x y => ltTS (k x) (k y)) h1
end
/-! ### methods called where what leaves them hangs on the slots, with keywords too; a dict comprehension kept in a local -/
section
open PySem.Spec PySem.Calls PyProof.Rows
def tMethA (C : Addr) (m : Str) (sp : Sp) (E : L2.St → XK) (ta : TE) (t : TA) : TE := fun σ H Q => ta σ H fun x H1 => ∃ a dx fs, x = .ref a ∧ H1 a = some (.ins C dx fs) ∧ fs.lookup m = none ∧ t σ H1 fun vs H2 => sp (x :: vs) H2 Q (E σ)
def tMethKw (C : Addr) (m : Str) (nk : Nat) (sp : Sp) (g : List V → List V → List V) (E : L2.St → XK) (ta : TE) (tk : TA) : TE := fun σ H Q => ta σ H fun x H1 => ∃ a dx fs, x = .ref a ∧ H1 a = some (.ins C dx fs) ∧ fs.lookup m = none ∧ tk σ H1 fun zs H2 => zs.length = nk ∧ sp (g [x] zs) H2 Q (E σ)
section
variable {X : Cx} {CX : CXT} {k : Nat} {f C : Addr} {fd : FuncData} {ps ks : List Str} {sp : Sp} {E : L2.St → XK} {m : Str} {apos pos : Pos} {o e : Expr} {es : List Expr} {kws : List Keyword} {ta : TE} {t tk : TA} {g : {α : Type} → List α → List α → List α} {pl : Sem Bool}
theorem pe_methA (he : PE X o ta) (c : Cls X.K C) (hm : Meth X.K C m f) (F : FnOk X.prog X.w X.K X.mg X.base CX k f fd ps sp) (hr : Room k X.A) (hb : Binds X.K fd ps []) (hx : ∀ σ, PassesAt CX X σ (E σ)) (ha : PA X (e :: es) t)
    (hst : starEach (e :: es) X.env = (false, eval e X.env) :: starEach es X.env := by rfl) (hpl : (backTo pos (starEach es X.env)).any (·.1) = false := by rfl)
    (ht : eval (.Call (.Attribute o m apos) (e :: es) [] pos) X.env = (do
      let ov ← eval o X.env
      standAt apos.atName
      let (f, first) ← holding [ov] (getMethod ov m pl)
      callWith pos f first (backTo pos (starEach (e :: es) X.env)) (backToKw pos (keywordEach [] X.env))) := by rfl) :
    PE X (.Call (.Attribute o m apos) (e :: es) [] pos) (tMethA C m sp E ta t) := by
  refine ⟨fun pins s σ H Q I h => ?_⟩
  refine PySem.W.methodCall_KW (pl := pl) (thn (he.run pins s σ H _ I h) fun u s1 got => ?_) ht
  obtain ⟨x, H1, I1, rx, a, dx, fs, rfl, ea, l, q⟩ := got
  cases (show u = Value.ref a from rx)
  refine getmeth_ok I1 ea c hm l ?_
  refine PySem.W.callWith_K (first := [.ref a]) (h₀ := X.base) I.ok.mod.kin hm.kp (thn (ha.run pos pins s1 σ H1 _ I1 q) fun us s2 got => ?_) hst hpl
  obtain ⟨vs, H2, I2, r, q2⟩ := got
  exact ⟨I2.kIn, run_fnS (us := .ref a :: us) (vs := .ref a :: vs) F hr hb (hx σ) I2 (.cons rfl r) q2⟩
/-- o.m(k = v, ..) -/
theorem pe_methKw (he : PE X o ta) (c : Cls X.K C) (hm : Meth X.K C m f) (F : FnOk X.prog X.w X.K X.mg X.base CX k f fd ps sp) (hr : Room k X.A) (hb : KwB X.K fd ps 1 ks g) (hx : ∀ σ, PassesAt CX X σ (E σ)) (hkw : PK X kws tk)
    (hall : (backToKw pos (keywordEach kws X.env)).all (·.1.isSome) = true := by rfl) (hks : (backToKw pos (keywordEach kws X.env)).filterMap (·.1) = ks := by rfl)
    (hpl : ((backTo pos (starEach [] X.env)).any (·.1) || (backToKw pos (keywordEach kws X.env)).any (·.1.isNone)) = false := by rfl)
    (ht : eval (.Call (.Attribute o m apos) [] kws pos) X.env = (do
      let ov ← eval o X.env
      standAt apos.atName
      let (f, first) ← holding [ov] (getMethod ov m pl)
      callWith pos f first (backTo pos (starEach [] X.env)) (backToKw pos (keywordEach kws X.env))) := by rfl) :
    PE X (.Call (.Attribute o m apos) [] kws pos) (tMethKw C m ks.length sp g E ta tk) := by
  refine ⟨fun pins s σ H Q I h => ?_⟩
  refine PySem.W.methodCall_KW (pl := pl) (thn (he.run pins s σ H _ I h) fun u s1 got => ?_) ht
  obtain ⟨x, H1, I1, rx, a, dx, fs, rfl, ea, l, q⟩ := got
  cases (show u = Value.ref a from rx)
  refine getmeth_ok I1 ea c hm l ?_
  refine PySem.W.callWith_KW0 (first := [.ref a]) (h₀ := X.base) I.ok.mod.kin hm.kp hall ?_ hpl
  refine thn (hkw.run pos pins s1 σ H1 _ I1 q) fun ws s2 got => ?_
  obtain ⟨zs, H2, I2, rz, l2, q2⟩ := got
  rw [hks]
  exact ⟨I2.kIn, run_kw (us := [.ref a]) (vs := [.ref a]) F hr hb (hx σ) I2 (.cons rfl .nil) rz rfl l2 q2⟩
end
theorem kwB_of {K : PySem.W.Frag} {x qual : Str} {st : Stmt} {f : Addr} {fd : FuncData} {ps ks : List Str} {n : Nat} {g : {α : Type} → List α → List α → List α} (F : Fun K x qual st f fd)
    (h : ∀ (kV doc pm : Value) (an : Option Addr) (cdv ct : Value) (us ws : List Value), us.length = n → ws.length = ks.length → bindArgs (PySem.W.fnOf x qual (defArgs st) (defBody st) (defScope st) .none kV doc pm an cdv ct) ⟨us, ks.zip ws⟩ = pure (ps.zip (g us ws)))
    (rel : ∀ {vs : List V} {us : List Value} {zs : List V} {ws : List Value}, vs.length = n → zs.length = ks.length → Vals vs us → Vals zs ws → Vals (g vs zs) (g us ws)) : KwB K fd ps n ks g := by
  obtain ⟨oc, od, kV, doc, pm, an, cdv, ct, osl, rfl, lk, hcd⟩ := F.ex
  exact ⟨h kV doc pm an cdv ct, rel⟩
/-- name = {k: v for ..} -/
theorem ps_setDc {X : Cx} {i : Nat} {y : Str} {py : Pos} {kx vx tg iter : Expr} {ifs : List Expr} {scope : Scope} {own : List (Str × Nat)} {pos spos : Pos} {wi : TI} {g : TG} {tt : TT} {tk tv : TE} (hc : X.calm = true) (hN : X.N.Nodup) (hy : X.N[i]? = some y) (hyl : X.env.scope.names.lookup y = some .local)
    (hsw : swapsWith (.DictComp kx vx [⟨tg, iter, ifs, 0⟩] scope pos) (some (.Name y py)) spos.line X.env = pure true) (hi : PI X tg iter wi) (ok : BlkOk X.N X.env.scope scope own)
    (hg : ∀ (s : Shared) (H : Hp) (C : Addr) (cl : List (Str × Addr)) (fp : List Addr), PG (X.blk s H scope (compEnvC scope cl C X.env) fp) tg g) (ht : ∀ (s : Shared) (H : Hp) (C : Addr) (cl : List (Str × Addr)) (fp : List Addr), PTs (X.blk s H scope (compEnvC scope cl C X.env) fp) ifs tt)
    (hk : ∀ (s : Shared) (H : Hp) (C : Addr) (cl : List (Str × Addr)) (fp : List Addr), PE (X.blk s H scope (compEnvC scope cl C X.env) fp) kx tk)
    (he : ∀ (s : Shared) (H : Hp) (C : Addr) (cl : List (Str × Addr)) (fp : List Addr), PE (X.blk s H scope (compEnvC scope cl C X.env) fp) vx tv) (hs : ∀ x, foldedSetIterable iter X.env x = pure x := by intro _; rfl) :
    PS X (.Assign [.Name y py] (.DictComp kx vx [⟨tg, iter, ifs, 0⟩] scope pos) spos) (tAsg (tDc wi g tt tk tv (own.map (·.2))) (gName i)) := by
  refine ⟨fun pins s σ H D I h => ?_⟩
  rw [exec_Assign_Name_used _ _ _ _ hsw]
  refine wpAny_bind (wpAny_standAt (wpAny_bind ?_))
  show wpAny _ X.A (do let _ ← comprehension (.DictComp kx vx [⟨tg, iter, ifs, 0⟩] scope pos) scope X.env (firstIterPos [⟨tg, iter, ifs, 0⟩] pos) newDict false (eval iter X.env) (some (assign (.Name y py) X.env))) _ _ s
  have h : tDc wi g tt tk tv (own.map (·.2)) σ H (fun x H1 => gName i x σ H1 D.nx) := h
  refine wpAny_bind (thn (dc_core (Qf := fun _ s' => SP X pins D .next s') hc hN I hi ok hg ht hk he hs h fun L C s' m H' I' q hn f => ?_) fun _ s' hq => wpAny_pure (wpAny_pure hq))
  show wpAny _ _ (assign (.Name y py) X.env (.ref L)) _ _ _
  refine wpAny_assign_Name (store_ok2 (v := V.ref L) I' hN hy (.inl hyl) rfl (fun s2 I2 z => ?_) (.inr hyl))
  obtain ⟨a, sb, ha⟩ := z
  obtain ⟨f0, f1, f2, f3, f4, f5⟩ := f
  have haC : C ≠ a := by
    rcases ha with z | z
    · rw [z]; exact f1
    · exact fun e => f4 y a z e.symm
  refine ⟨m, hn.sameBut sb haC, fun h3 sb3 => ?_⟩
  exact ⟨_, H', I2.turned (t' := s2.toks) (fun b o hb e => (sb3.2 b hb).trans e) f0 f1 f3 f4 f5, q⟩
theorem sw_trueD {kx vx : Expr} {gs : List Comprehension} {scope : Scope} {pos py : Pos} {y : Str} {l : Nat} {env : Env} (hk : env.scope.kind = .function) (hy : env.scope.names.lookup y = some .local) (hl : (py.line == pos.line) = true)
    (ha : (scope.names.any fun (n, k) => n == y && (k == .local || k == .cell)) = false) : swapsWith (.DictComp kx vx gs scope pos) (some (.Name y py)) l env = pure true := by
  have ky : env.kindOf y = some .local := hy
  have hb : env.blockKind = .function := by unfold Env.blockKind; rw [hk]; rfl
  unfold swapsWith
  simp only [hb, ky, ha, Expr.pos, hl]
  rfl
end
/-! ### x in a list of texts, x data or a dict -/
section
open PySem.Spec PySem.Calls PyProof.Rows PySem.SeqAt
theorem str_eq_declines_dict (b : Str) (u : Tok) (l : Addr) (c : Value) (es : Array DictEntry) (n : Nat) (dd : Option Addr) (sl : Array (Option Value)) :
    Meets (Builtin.«str.__eq__» ⟨[.str b u, .ref l], []⟩) (fun _ R s => s.heap.get? l = some { cls := c, dict := dd, data := .dict es n, slots := sl } ∧ R (.ok (.ret .notImplemented)) s) :=
  .of_wp fun prog w A R s h => by obtain ⟨hp, g, d, tk, os⟩ := s; obtain ⟨hl, h⟩ := h; wp_walk using wpAny_loadPart' hl, wpAny_load hl; exact ⟨_, rfl, h⟩
theorem dict_eq_declines_str (l : Addr) (es : Array DictEntry) (n : Nat) (dd : Option Addr) (sl : Array (Option Value)) (b : Str) (u : Tok) :
    Meets (Builtin.«dict.__eq__» ⟨[.ref l, .str b u], []⟩) (fun _ R s => s.heap.get? l = some { cls := .type "dict", dict := dd, data := .dict es n, slots := sl } ∧ R (.ok (.ret .notImplemented)) s) :=
  .of_wp fun prog w A R s h => by obtain ⟨hp, g, d, tk, os⟩ := s; obtain ⟨hl, h⟩ := h; have f1 := F.sub_str_dict; wp_walk using wpAny_loadPart' hl; exact ⟨_, rfl, h⟩
section
variable {A : Around} {s : Shared}
theorem rc_str_dict {l : Addr} {es : Array DictEntry} {n : Nat} {dd : Option Addr} {sl : Array (Option Value)} (b : Str) (u : Tok) (ho : s.heap.get? l = some { cls := .type "dict", dict := dd, data := .dict es n, slots := sl }) (hu : A.units < cLine) : SeqAt.RcAt A s (.str b u) (.ref l) false := fun prog w E Q h => by
  exact rc_eq_decline_or (k := false) (typeIs_str s b u) ⟨_, ho, rfl⟩ (by decide) F.sub_dict_str F.slot_str_eq F.slot_dict_eq_refl
    (fun _ hq => call_meets F.slot_str_eq (typeIs_str s b u) F.entry_str_eq (F.args_str_eq_2 _ _) (str_eq_declines_dict b u l (.type "dict") es n dd sl) ⟨ho, hq⟩)
    (fun _ hq => call_meets F.slot_dict_eq_refl ⟨_, ho, rfl⟩ F.entry_dict_eq (F.args_dict_eq_2 _ _) (dict_eq_declines_str l es n dd sl b u) ⟨ho, hq⟩)
    (fun _ hq => wpAny_of_eq (rfl : isSame (.str b u) (.ref l) = pure false) hq) (.inr hu) h
theorem eq_str_dict {l : Addr} {es : Array DictEntry} {n : Nat} {dd : Option Addr} {sl : Array (Option Value)} (b : Str) (u : Tok) (ho : s.heap.get? l = some { cls := .type "dict", dict := dd, data := .dict es n, slots := sl }) (hu : A.units < cLine) : SeqAt.EqAt A s (.str b u) (.ref l) false := fun prog w E Q h => by
  unfold eqBool
  refine wpAny_holding ?_
  refine wpAny_ite_split (fun hab => absurd (eq_of_beq hab) nofun) (fun _ => ?_)
  exact wpAny_bind (rc_str_dict b u ho hu prog w E _ (wpAny_truthy_bool h))
end

/-- x in l, l a list of texts -/
def inO (ns : List Str) : Option PyData → Bool
  | some (.str s) => decide (s ∈ ns)
  | _ => false
def rInS (K : PySem.W.Frag) : R2 := fun x y H Q => ∃ p ss o, y = .ref p ∧ SqL K H p (ss.map V.str) ∧ VD K H x o ∧ SeqAt.shaped (.list (ss.map PyData.str)) = true ∧ Q (.bl (inO ss o)) H
theorem inO_eqv (ss : List Str) (d : PyData) : ((ss.map PyData.str).any fun z => PyData.eqv z d) = inO ss (some d) := by
  rw [List.any_map]
  cases d with
  | str s =>
    show (ss.any fun z => PyData.eqv (.str z) (.str s)) = decide (s ∈ ss)
    rw [Bool.eq_iff_iff, List.any_eq_true, decide_eq_true_iff]
    constructor
    · rintro ⟨z, hz, e⟩
      have : z = s := by simpa [PyData.eqv] using e
      rw [← this]
      exact hz
    · intro h
      exact ⟨s, h, by simp [PyData.eqv]⟩
  | _ =>
    show (ss.any _) = false
    rw [List.any_eq_false]
    intro z _
    simp [PyData.eqv]
theorem op_inS {X : Cx} (hu : X.A.units + 65 < cLine) : OpR X (compareOp .In) (rInS X.K) := by
  intro pins s σ H x y v u Q I rx ry h
  obtain ⟨p, ss, o, rfl, hl, hv, sh, q⟩ := h
  cases hv with
  | dat a b c =>
    refine op_inD hu pins s σ H x _ v u Q I rx ry ⟨_, _, a, .lst hl (dpAll_strs _), b, sh, ?_⟩
    rw [inO_eqv]
    exact q
  | @dic a kvs hd =>
    cases (show v = Value.ref a from rx)
    cases (show u = Value.ref p from ry)
    obtain ⟨its, r, pl, hz⟩ := I.list hl
    obtain ⟨_, _, vs, _, ob, es, ep, ho, ⟨hc, hdd⟩, hdt, _⟩ := dk_of I.hok hd
    obtain ⟨oc, od, odt, osl⟩ := ob
    have hc : oc = .type "dict" := hc
    have hdt : odt = .dict es ep := hdt
    subst hc hdt
    refine SeqAt.in_listAt (fun _ => false) pl.isList (fun w hw => ?_) ⟨.bl _, H, I, rfl, ?_⟩
    · have : ∃ t tk, w = Value.str t tk := by
        have key : ∀ {l : List Str} {us : List Value}, Vals (l.map V.str) us → ∀ w ∈ us, ∃ t tk, w = Value.str t tk := by
          intro l
          induction l with
          | nil =>
            intro us h w hw
            cases h
            cases hw
          | cons z l ih =>
            intro us h w hw
            cases h with
            | cons a b =>
              rcases List.mem_cons.mp hw with rfl | hw
              · obtain ⟨tk, e⟩ := a
                exact ⟨z, tk, e⟩
              · exact ih b w hw
        exact key r w (by simpa using hw)
      obtain ⟨t, tk, rfl⟩ := this
      exact eq_str_dict t tk ho (by show X.A.in1.units < cLine; have : X.A.in1.units ≤ X.A.units + 1 := Nat.le_refl _; omega)
    · have : (its.toArray.any fun _ => false) = false := by simp
      rw [this]
      exact q
end
/-! base 2 -/
/-! ### catalogs: what is handed in -/
theorem list_none {α : Type} {l : List α} {i : Nat} (h : l[i]? = none) : l.length ≤ i := List.getElem?_eq_none_iff.mp h
/-- all but what lies at xs is as it was -/
def SX (xs : List Addr) (H H' : Hp) : Prop := ∀ b o, b ∉ xs → H b = some o → H' b = some o
theorem SX.of {xs : List Addr} {H H' : Hp} (s : Same H H') : SX xs H H' := fun b o _ e => s b o e
theorem SX.trans {xs : List Addr} {H H1 H2 : Hp} (a : SX xs H H1) (b : SX xs H1 H2) : SX xs H H2 := fun c o n e => b c o n (a c o n e)
theorem SX.mono {xs ys : List Addr} {H H' : Hp} (a : SX xs H H') (h : ∀ x ∈ xs, x ∈ ys) : SX ys H H' := fun c o n e => a c o (fun z => n (h c z)) e
/-- what is a list, a tuple or locked is as it was -/
def seqO : HO → Bool
  | .lst _ => true
  | .tup _ => true
  | .frz _ _ => true
  | _ => false
def ND (H H' : Hp) : Prop := ∀ b o, H b = some o → seqO o = true → H' b = some o
theorem ND.of {H H' : Hp} (s : Same H H') : ND H H' := fun b o e _ => s b o e
theorem ND.trans {H H1 H2 : Hp} (a : ND H H1) (b : ND H1 H2) : ND H H2 := fun c o e n => b c o (a c o e n) n
theorem ND.sx {xs : List Addr} {H H' : Hp} (s : SX xs H H') (n : ∀ x ∈ xs, ∀ o, H x = some o → seqO o = false) : ND H H' := fun b o e z => s b o (fun hb => by
  rw [n b hb o e] at z
  cases z) e
theorem ND.lock {H : Hp} {d : Addr} {kvs : List (Key × V)} {od : Obj} (h : H d = some (.dK kvs)) : ND H (upd H d (.frz od (.dK kvs))) := fun b o e n => by
  by_cases z : b = d
  · rw [z, h] at e
    cases e
    cases n
  · rw [upd_ne z]
    exact e
theorem ND.seq {K : PySem.W.Frag} {H H' : Hp} {a : Addr} {xs : List V} (e : ND H H') (h : SqL K H a xs) : SqL K H' a xs := by
  rcases h with (h | ⟨o, h⟩) | h
  · exact .inl (.inl (e _ _ h rfl))
  · exact .inl (.inr ⟨o, e _ _ h rfl⟩)
  · exact .inr h
theorem ND.tup {K : PySem.W.Frag} {H H' : Hp} {a : Addr} {xs : List V} (e : ND H H') (h : SqT K H a xs) : SqT K H' a xs := by
  rcases h with (h | ⟨o, h⟩) | h
  · exact .inl (.inl (e _ _ h rfl))
  · exact .inl (.inr ⟨o, e _ _ h rfl⟩)
  · exact .inr h
/-- a dict that was locked is as it was -/
theorem unlock {H H1 : Hp} {d : Addr} {kvs : List (Key × V)} {od : Obj} (hd : H d = some (.dK kvs)) (s1 : Same (upd H d (.frz od (.dK kvs))) H1) : Same H (upd H1 d (.dK kvs)) := fun b o e => by
  by_cases z : b = d
  · rw [z] at e ⊢
    rw [upd_same, ← hd]
    exact e
  · rw [upd_ne z]
    exact s1 _ _ (by rw [upd_ne z]; exact e)
mutual
theorem dp_nd {K : PySem.W.Frag} {H H' : Hp} (e : ND H H') : ∀ {v : V} {d : PyData}, Dp K H v d → Dp K H' v d
  | _, _, .non => .non
  | _, _, .bl b => .bl b
  | _, _, .int i => .int i
  | _, _, .str x => .str x
  | _, _, .lst h a => .lst (e.seq h) (dpAll_nd e a)
  | _, _, .tup h a => .tup (e.tup h) (dpAll_nd e a)
theorem dpAll_nd {K : PySem.W.Frag} {H H' : Hp} (e : ND H H') : ∀ {vs : List V} {ds : List PyData}, DpAll K H vs ds → DpAll K H' vs ds
  | _, _, .nil => .nil
  | _, _, .cons a b => .cons (dp_nd e a) (dpAll_nd e b)
end
theorem VD.nd {K : PySem.W.Frag} {H H' : Hp} (e : ND H H') {v : V} {d : PyData} (h : VD K H v (some d)) : VD K H' v (some d) := by
  cases h with
  | dat a b c => exact .dat (dp_nd e a) b c
abbrev Ent := Key × V × PyData
def kvE (e : Ent) : Key × V := (e.1, e.2.1)
def kD : Key → PyData
  | .inl i => .int i
  | .inr s => .str s
def keyOk : Key → Prop
  | .inl _ => True
  | .inr s => sOk 1000 s
theorem vd_key {K : PySem.W.Frag} {H : Hp} {k : Key} (h : keyOk k) : VD K H (kV k) (some (kD k)) := by
  cases k with
  | inl i => exact .dat (.int i) rfl fun s e => by cases e
  | inr s =>
    refine .dat (.str s) (shaped_iff.mpr ⟨?_, by simp [kD, PyData.depth]⟩) fun t e => ?_
    · simp only [kD, PyData.canLay0]
      exact h.2
    · cases e
      exact h.1
/-- the entries: their values are data, their keys short -/
def EV (K : PySem.W.Frag) (H : Hp) (es : List Ent) : Prop := ∀ e ∈ es, VD K H e.2.1 (some e.2.2) ∧ keyOk e.1
theorem EV.nd {K : PySem.W.Frag} {H H' : Hp} {es : List Ent} (s : ND H H') (h : EV K H es) : EV K H' es := fun e he => ⟨(h e he).1.nd s, (h e he).2⟩
theorem EV.mono {K : PySem.W.Frag} {H H' : Hp} {es : List Ent} (s : Same H H') (h : EV K H es) : EV K H' es := h.nd (.of s)
def lookE (es : List Ent) (k : Key) : Option Ent := es.find? fun e => decide (e.1 = k)
theorem valE (k : Key) : ∀ es : List Ent, valV (es.map kvE) k = (lookE es k).map (·.2.1)
  | [] => rfl
  | e :: r => by
    unfold lookE
    rw [List.map_cons, List.find?_cons]
    by_cases h : e.1 = k
    · rw [valV_pos (p := kvE e) h, decide_eq_true h]
      rfl
    · rw [valV_neg (p := kvE e) h, decide_eq_false h]
      exact valE k r
theorem lookE_mem {es : List Ent} {k : Key} {e : Ent} (h : lookE es k = some e) : e ∈ es ∧ e.1 = k := by
  have := List.find?_some h
  exact ⟨List.mem_of_find?_eq_some h, of_decide_eq_true this⟩
theorem lookE_some {es : List Ent} {k : Key} (h : k ∈ es.map (·.1)) : ∃ e, lookE es k = some e := by
  obtain ⟨e, he, rfl⟩ := List.mem_map.mp h
  cases q : lookE es e.1 with
  | some z => exact ⟨z, rfl⟩
  | none =>
    have := List.find?_eq_none.mp q e he
    simp at this
def nodK (es : List Ent) : Prop := (es.map (·.1)).Nodup
/-! ### texts in order -/
def leS (a b : Str) : Bool := !PySem.Spec.ltCps b.cps.toList a.cps.toList
def srtS (ks : List Str) : List Str := ks.mergeSort leS
theorem leS_iff (a b : Str) : leS a b = true ↔ a.cps.toList ≤ b.cps.toList := by
  unfold leS
  rw [PyProof.Rows.ltCps_eq, Bool.not_eq_true', decide_eq_false_iff_not, List.not_lt]
theorem leS_tr {a b c : Str} (h : leS a b = true) (k : leS b c = true) : leS a c = true := by
  rw [leS_iff] at h k ⊢
  exact List.le_trans h k
theorem leS_tot (a b : Str) : (leS a b || leS b a) = true := by
  cases h : leS a b with
  | true => rfl
  | false =>
    have h1 : ¬ a.cps.toList ≤ b.cps.toList := fun z => by
      rw [(leS_iff a b).mpr z] at h
      cases h
    have h2 : b.cps.toList ≤ a.cps.toList := (List.le_total _ _).resolve_left h1
    rw [(leS_iff b a).mpr h2]
    rfl
theorem str_eq {a b : Str} (h : a.cps.toList = b.cps.toList) : a = b := by
  cases a
  cases b
  congr 1
  exact Array.toList_inj.mp h
theorem leS_anti {a b : Str} (h : leS a b = true) (k : leS b a = true) : a = b := by
  rw [leS_iff] at h k
  exact str_eq (List.le_antisymm h k)
theorem rising_pw : ∀ {ys : List Str} {p : Str}, PyProof.Rows.risingS p ys = true → (p :: ys).Pairwise fun a b => leS a b = true
  | [], p, _ => List.pairwise_singleton _ _
  | y :: r, p, h => by
    have h' : (!PySem.Spec.ltCps y.cps.toList p.cps.toList && PyProof.Rows.risingS y r) = true := h
    rw [Bool.and_eq_true] at h'
    have ih := rising_pw h'.2
    have hpy : leS p y = true := h'.1
    refine List.pairwise_cons.mpr ⟨fun z hz => ?_, ih⟩
    rcases List.mem_cons.mp hz with rfl | hz
    · exact hpy
    · exact leS_tr hpy ((List.pairwise_cons.mp ih).1 z hz)
theorem sorted_pw {ys : List Str} (h : PyProof.Rows.sortedS ys = true) : ys.Pairwise fun a b => leS a b = true := by
  cases ys with
  | nil => exact .nil
  | cons y r => exact rising_pw h
theorem srt_pw (ks : List Str) : (srtS ks).Pairwise fun a b => leS a b = true := List.pairwise_mergeSort (le := leS) (fun a b c h k => leS_tr h k) leS_tot ks
theorem srt_eq {ys ks : List Str} (p : ys.Perm ks) (h : PyProof.Rows.sortedS ys = true) : ys = srtS ks :=
  List.Perm.eq_of_pairwise (fun a b _ _ => leS_anti) (sorted_pw h) (srt_pw ks) (p.trans (List.mergeSort_perm ks leS).symm)
theorem srt_perm {ks ls : List Str} (p : ks.Perm ls) : srtS ks = srtS ls :=
  List.Perm.eq_of_pairwise (fun a b _ _ => leS_anti) (srt_pw ks) (srt_pw ls) ((List.mergeSort_perm ks leS).trans (p.trans (List.mergeSort_perm ls leS).symm))
theorem srt_mem {ks : List Str} {s : Str} : s ∈ srtS ks ↔ s ∈ ks := (List.mergeSort_perm ks leS).mem_iff
theorem srt_len (ks : List Str) : (srtS ks).length = ks.length := List.length_mergeSort ks
theorem srt_nodup {ks : List Str} (h : ks.Nodup) : (srtS ks).Nodup := (List.mergeSort_perm ks leS).nodup_iff.mpr h
/-! ### rows: name, where the span stands, the span -/
abbrev Row := Str × Addr × Span
def rE (r : Row) : Ent := (.inr r.1, .ref r.2.1, spD r.2.2)
def rKV (r : Row) : Key × V := (.inr r.1, .ref r.2.1)
theorem kvE_rE (r : Row) : kvE (rE r) = rKV r := rfl
theorem map_rKV (rs : List Row) : (rs.map rE).map kvE = rs.map rKV := by rw [List.map_map]; rfl
def RowsOk (K : PySem.W.Frag) (H : Hp) (rs : List Row) : Prop := ∀ r ∈ rs, SqT K H r.2.1 (spV r.2.2) ∧ okS r.2.2 = true ∧ nameS r.1 = true
theorem RowsOk.nd {K : PySem.W.Frag} {H H' : Hp} {rs : List Row} (s : ND H H') (h : RowsOk K H rs) : RowsOk K H' rs := fun r hr => ⟨s.tup (h r hr).1, (h r hr).2⟩
theorem RowsOk.mono {K : PySem.W.Frag} {H H' : Hp} {rs : List Row} (s : Same H H') (h : RowsOk K H rs) : RowsOk K H' rs := h.nd (.of s)
def goodE (e : Ent) : Bool := nameO (some (kD e.1)) && spanO (some e.2.2)
theorem rows_of {K : PySem.W.Frag} {H : Hp} : ∀ {es : List Ent}, EV K H es → (∀ e ∈ es, goodE e = true) → ∃ rs, es = rs.map rE ∧ RowsOk K H rs
  | [], _, _ => ⟨[], rfl, fun r hr => (List.not_mem_nil hr).elim⟩
  | e :: es, hv, hg => by
    obtain ⟨rs, h1, h2⟩ := rows_of (es := es) (fun x hx => hv x (List.mem_cons_of_mem _ hx)) fun x hx => hg x (List.mem_cons_of_mem _ hx)
    have g := hg e List.mem_cons_self
    unfold goodE at g
    rw [Bool.and_eq_true] at g
    obtain ⟨v1, _⟩ := hv e List.mem_cons_self
    obtain ⟨k, v, d⟩ := e
    obtain ⟨g1, g2⟩ := g
    cases k with
    | inl i => cases g1
    | inr s =>
      obtain ⟨sp, e1, ok⟩ := spanO_of g2
      cases e1
      obtain ⟨a, rfl, ha⟩ := VD.sp v1
      refine ⟨(s, a, sp) :: rs, by rw [h1]; rfl, fun r hr => ?_⟩
      rcases List.mem_cons.mp hr with rfl | hr
      · exact ⟨ha, ok, g1⟩
      · exact h2 r hr
def strK : Key → Str
  | .inr s => s
  | .inl _ => Str.empty
def refA : V → Addr
  | .ref a => a
  | _ => 0
def limO' : PyData → Option Int
  | .int i => some i
  | _ => none
def spOf : PyData → Span
  | .tuple [a, b] => (limO' a, limO' b)
  | _ => (none, none)
theorem spOf_spD (s : Span) : spOf (spD s) = s := by
  obtain ⟨a, b⟩ := s
  cases a <;> cases b <;> rfl
def nmsE (es : List Ent) : List Str := es.map fun e => strK e.1
def rowsE (es : List Ent) : List Row := es.map fun e => (strK e.1, refA e.2.1, spOf e.2.2)
theorem nmsE_rows (rs : List Row) : nmsE (rs.map rE) = rs.map (·.1) := by
  unfold nmsE
  rw [List.map_map]
  rfl
theorem rowsE_rows (rs : List Row) : rowsE (rs.map rE) = rs := by
  unfold rowsE
  rw [List.map_map]
  have : ((fun e : Ent => (strK e.1, refA e.2.1, spOf e.2.2)) ∘ rE) = (id : Row → Row) := by
    funext r
    obtain ⟨n, a, s⟩ := r
    show (n, a, spOf (spD s)) = (n, a, s)
    rw [spOf_spD]
  rw [this, List.map_id]
/-! ### what is wrong with a catalog's arguments: (0 no dict, 1 a name, 2 a span, 3 an overlap, 4 taken, 5 too many) and the value -/
def fldC : Nat → Str
  | 0 => "value"
  | 1 => "value"
  | 2 => "value"
  | 3 => "name"
  | 4 => "name"
  | _ => "bound"
def RzX (xs : List Addr) (H : Hp) (E : XK) (C : Addr) (f : Str) (v : V) : Prop := ∀ (d : Addr) (H' : Hp), H d = none → H' d = some (.xd [(f, v)]) → SX xs H H' → E (.ref C) (some d) H'
theorem RzX.rz {xs : List Addr} {H : Hp} {E : XK} {C : Addr} {f : Str} {v : V} (h : RzX xs H E C f v) : Rz H E C f v := fun d H' n x s => h d H' n x (.of s)
theorem RzX.back {xs : List Addr} {H H1 : Hp} {E : XK} {C : Addr} {f : Str} {v : V} (s : SX xs H H1) (fr : ∀ b, H1 b = none → H b = none) (h : RzX xs H E C f v) : RzX xs H1 E C f v := fun d H' n x k => h d H' (fr d n) x (s.trans k)
theorem RzX.same {xs : List Addr} {H H1 : Hp} {E : XK} {C : Addr} {f : Str} {v : V} (s : Same H H1) (h : RzX xs H E C f v) : RzX xs H1 E C f v := h.back (.of s) fun _ => s.free
def ExC (xs : List Addr) (H : Hp) (E : XK) (Cs : Nat → Addr) (r : Nat × V) : Prop := RzX xs H E (Cs r.1) (fldC r.1) r.2
def badKey (es : List Ent) : Option Ent := es.find? fun e => !nameO (some (kD e.1))
def badSpan (es : List Ent) : Option Str := (srtS (nmsE es)).find? fun y => !spanO ((lookE es (.inr y)).map (·.2.2))
def valAt (es : List Ent) (y : Str) : V := ((lookE es (.inr y)).map (·.2.1)).getD .non
def rsF (es : List Ent) : Option (Nat × V) := match badKey es with
  | some e => some (1, kV e.1)
  | none => match badSpan es with
    | some y => some (2, valAt es y)
    | none => none
def meetB (s t : Span) : Bool := okS (comS s t)
def ovlR : List Row → List Row → Option Str
  | _, [] => none
  | acc, r :: t => if acc.any (fun q => meetB q.2.2 r.2.2) = true then some r.1 else ovlR (acc ++ [r]) t
def rowOf (rs : List Row) (y : Str) : Row := (rs.find? fun r => decide (r.1 = y)).getD (y, 0, (none, none))
def sortR (rs : List Row) : List Row := (srtS (rs.map (·.1))).map (rowOf rs)
def ovl (rs : List Row) : Option Str := ovlR [] (sortR rs)
def inNames (ns : List Str) : Option PyData → Bool
  | some (.str s) => decide (s ∈ ns)
  | _ => false
def restR (ns : List Str) (rv : V) (ro : Option PyData) : Option (Nat × V) :=
  if nonO ro = true then (if 8 < ns.length then some (5, .int 8) else none) else if nameO ro = false then some (1, rv) else if inNames ns ro = true then some (4, rv) else if 8 < ns.length + 1 then some (5, .int 8) else none
def catR (rs : List Row) (rv : V) (ro : Option PyData) : Option (Nat × V) := match ovl rs with
  | some y => some (3, .str y)
  | none => restR (rs.map (·.1)) rv ro
def catF (es : List Ent) (rv : V) (ro : Option PyData) : Option (Nat × V) := match rsF es with
  | some q => some q
  | none => catR (rowsE es) rv ro
def restL : Option PyData → List Str
  | some (.str s) => [s]
  | _ => []
theorem lookE_of : ∀ {es : List Ent}, nodK es → ∀ e ∈ es, lookE es e.1 = some e
  | x :: r, nd, e, he => by
    have nd' := List.nodup_cons.mp (show (x.1 :: r.map (·.1)).Nodup from nd)
    unfold lookE
    rw [List.find?_cons]
    rcases List.mem_cons.mp he with rfl | he
    · rw [decide_eq_true rfl]
    · have ne : ¬ x.1 = e.1 := fun z => nd'.1 (by rw [z]; exact List.mem_map.mpr ⟨e, he, rfl⟩)
      rw [decide_eq_false ne]
      exact lookE_of nd'.2 e he
theorem rsF_good {es : List Ent} (nd : nodK es) (h : rsF es = none) : ∀ e ∈ es, goodE e = true := by
  unfold rsF at h
  cases h1 : badKey es with
  | some e => rw [h1] at h; cases h
  | none =>
    rw [h1] at h
    cases h2 : badSpan es with
    | some y => rw [h2] at h; cases h
    | none =>
      intro e he
      have k1 := List.find?_eq_none.mp h1 e he
      have k1 : nameO (some (kD e.1)) = true := by simpa using k1
      unfold goodE
      rw [k1, Bool.true_and]
      obtain ⟨k, v, d⟩ := e
      cases k with
      | inl i => cases k1
      | inr s =>
        have hs : s ∈ srtS (nmsE es) := srt_mem.mpr (List.mem_map.mpr ⟨_, he, rfl⟩)
        have k2 := List.find?_eq_none.mp h2 s hs
        rw [show lookE es (.inr s) = some (.inr s, v, d) from lookE_of nd _ he] at k2
        simpa using k2
theorem rsF_of_good {es : List Ent} (nd : nodK es) (h : ∀ e ∈ es, goodE e = true) : rsF es = none := by
  have h1 : badKey es = none := List.find?_eq_none.mpr fun e he => by
    have := h e he
    unfold goodE at this
    rw [Bool.and_eq_true] at this
    simp [this.1]
  have h2 : badSpan es = none := List.find?_eq_none.mpr fun y hy => by
    obtain ⟨e, he, e1⟩ := List.mem_map.mp (srt_mem.mp hy)
    have g := h e he
    unfold goodE at g
    rw [Bool.and_eq_true] at g
    obtain ⟨k, v, d⟩ := e
    cases k with
    | inl i => cases g.1
    | inr s =>
      have e1 : s = y := e1
      subst e1
      rw [show lookE es (.inr s) = some (.inr s, v, d) from lookE_of nd _ he]
      simp [g.2]
  unfold rsF
  rw [h1, h2]
theorem find_at {α : Type} {p : α → Bool} : ∀ {l : List α} {i : Nat} {x : α}, l[i]? = some x → p x = true → (∀ j, j < i → ∀ y, l[j]? = some y → p y = false) → l.find? p = some x
  | [], _, _, h, _, _ => by simp at h
  | a :: r, 0, x, h, hp, _ => by
    cases h
    rw [List.find?_cons, hp]
  | a :: r, i + 1, x, h, hp, hn => by
    rw [List.find?_cons, hn 0 (Nat.succ_pos _) a rfl]
    exact find_at (l := r) (i := i) (by simpa using h) hp fun j hj y hy => hn (j + 1) (by omega) y (by simpa using hy)
theorem find_no {α : Type} {p : α → Bool} {l : List α} (h : ∀ j, j < l.length → ∀ y, l[j]? = some y → p y = false) : l.find? p = none :=
  List.find?_eq_none.mpr fun x hx => by
    obtain ⟨j, hj, e⟩ := List.mem_iff_getElem.mp hx
    rw [h j hj x (by rw [List.getElem?_eq_getElem hj, e])]
    exact Bool.false_ne_true
/-! ### promises of the program's side -/
/-- what stands for the spans: no dict, or a dict with its entries -/
inductive SpIn (K : PySem.W.Frag) (H : Hp) : V → Option (Addr × List Ent) → Prop
  | no {v : V} {o : Option PyData} : VD K H v o → isT "dict" o = false → SpIn K H v none
  | dict {d : Addr} {es : List Ent} : H d = some (.dK (es.map kvE)) → EV K H es → nodK es → es.length ≤ 60 → SpIn K H (.ref d) (some (d, es))
def rsQ (v : V) : Option (Addr × List Ent) → Option (Nat × V)
  | none => some (0, v)
  | some (_, es) => rsF es
def spX : Option (Addr × List Ent) → List Addr
  | none => []
  | some (d, _) => [d]
def sp_rspans (K : PySem.W.Frag) (Cs : Nat → Addr) : Sp := fun vs H Q E => ∃ (v : V) (o : Option (Addr × List Ent)), vs = [v] ∧ SpIn K H v o ∧ (rsQ v o = none → ∀ H', Same H H' → Q .non H') ∧ ∀ q, rsQ v o = some q → ExC (spX o) H E Cs q
theorem kit_d {K : PySem.W.Frag} (o : Option PyData) : PySem.W.kitOne K (.type (tyO o)) (.type "dict") = some (isT "dict" o) := by
  have h := tyO_mem o
  unfold isT
  generalize tyO o = nm at h ⊢
  rcases h with rfl | rfl | rfl | rfl | rfl | rfl | rfl
  all_goals exact kit_ty (by decide +kernel)
/-! rows by their names -/
theorem rowOf_mem {rs : List Row} {y : Str} (h : y ∈ rs.map (·.1)) : rowOf rs y ∈ rs ∧ (rowOf rs y).1 = y := by
  unfold rowOf
  cases q : rs.find? fun r => decide (r.1 = y) with
  | some r =>
    have := List.find?_some q
    exact ⟨List.mem_of_find?_eq_some q, of_decide_eq_true this⟩
  | none =>
    obtain ⟨r, hr, e⟩ := List.mem_map.mp h
    have := List.find?_eq_none.mp q r hr
    simp [e] at this
theorem valR {rs : List Row} {y : Str} (h : y ∈ rs.map (·.1)) : valV (rs.map rKV) (.inr y) = some (.ref (rowOf rs y).2.1) := by
  have key : ∀ l : List Row, valV (l.map rKV) (.inr y) = (l.find? fun r => decide (r.1 = y)).map fun r => V.ref r.2.1 := fun l => by
    induction l with
    | nil => rfl
    | cons r t ih =>
      rw [List.map_cons, List.find?_cons]
      by_cases e : r.1 = y
      · rw [valV_pos (p := rKV r) (by rw [← e]; rfl), decide_eq_true e]
        rfl
      · rw [valV_neg (p := rKV r) (fun z => e (Sum.inr.inj z)), decide_eq_false e]
        exact ih
  rw [key]
  unfold rowOf
  cases q : rs.find? fun r => decide (r.1 = y) with
  | some r => rfl
  | none =>
    obtain ⟨r, hr, e⟩ := List.mem_map.mp h
    have := List.find?_eq_none.mp q r hr
    simp [e] at this
theorem valR_none {rs : List Row} {y : Str} (h : y ∉ rs.map (·.1)) : valV (rs.map rKV) (.inr y) = none := by
  induction rs with
  | nil => rfl
  | cons r t ih =>
    rw [List.map_cons, List.mem_cons, not_or] at h
    rw [List.map_cons, valV_neg (p := rKV r) (fun z => h.1 (Sum.inr.inj z).symm)]
    exact ih h.2
theorem sortR_names (rs : List Row) : (sortR rs).map (·.1) = srtS (rs.map (·.1)) := by
  unfold sortR
  rw [List.map_map]
  refine (List.map_congr_left fun y hy => ?_).trans (List.map_id _)
  exact (rowOf_mem (srt_mem.mp hy)).2
theorem sortR_mem {rs : List Row} {r : Row} (h : r ∈ sortR rs) : r ∈ rs := by
  obtain ⟨y, hy, rfl⟩ := List.mem_map.mp h
  exact (rowOf_mem (srt_mem.mp hy)).1
theorem sortR_len (rs : List Row) : (sortR rs).length = rs.length := by
  unfold sortR
  rw [List.length_map, srt_len, List.length_map]
theorem sortR_at {rs : List Row} {i : Nat} {y : Str} (h : (srtS (rs.map (·.1)))[i]? = some y) : (sortR rs)[i]? = some (rowOf rs y) := by
  unfold sortR
  rw [List.getElem?_map, h]
  rfl
theorem rowOf_self : ∀ {rs : List Row}, (rs.map (·.1)).Nodup → ∀ r ∈ rs, rowOf rs r.1 = r
  | x :: t, nd, r, hr => by
    have nd' := List.nodup_cons.mp (show (x.1 :: t.map (·.1)).Nodup from nd)
    unfold rowOf
    rw [List.find?_cons]
    rcases List.mem_cons.mp hr with rfl | hr
    · rw [decide_eq_true rfl]
      rfl
    · have ne : ¬ x.1 = r.1 := fun z => nd'.1 (by rw [z]; exact List.mem_map.mpr ⟨r, hr, rfl⟩)
      rw [decide_eq_false ne]
      exact rowOf_self nd'.2 r hr
theorem spD_inj {s t : Span} (h : spD s = spD t) : s = t := by
  obtain ⟨a, b⟩ := s
  obtain ⟨c, d⟩ := t
  have h' : PyData.tuple [limD a, limD b] = PyData.tuple [limD c, limD d] := h
  injection h' with h1
  injection h1 with h2 h3
  injection h3 with h4 _
  rw [limD_inj h2, limD_inj h4]
theorem ovlR_step {acc : List Row} {r : Row} {t : List Row} : ovlR acc (r :: t) = if acc.any (fun q => meetB q.2.2 r.2.2) = true then some r.1 else ovlR (acc ++ [r]) t := rfl
theorem nameO_s {o : Option PyData} (h : nameO o = true) : ∃ s, o = some (.str s) := by
  rcases o with _ | d
  · cases h
  · cases d with
    | str s => exact ⟨s, rfl⟩
    | _ => cases h
def fmV : Option Row → V
  | none => .non
  | some r => .str r.1
def sp_fmeet (K : PySem.W.Frag) : Sp := fun vs H Q _ => ∃ (d a : Addr) (rs : List Row) (s : Span), vs = [.ref d, .ref a] ∧ H d = some (.dK (rs.map rKV)) ∧ RowsOk K H rs ∧ (rs.map (·.1)).Nodup ∧ SqT K H a (spV s) ∧ okS s = true ∧
  ∀ H', Same H H' → Q (fmV (rs.find? fun r => meetB r.2.2 s)) H'
def sp_ordered (K : PySem.W.Frag) (CO : Addr) : Sp := fun vs H Q E => ∃ (d : Addr) (rs : List Row), vs = [.ref d] ∧ H d = some (.dK (rs.map rKV)) ∧ RowsOk K H rs ∧ (rs.map (·.1)).Nodup ∧ rs.length ≤ 60 ∧
  (ovl rs = none → ∀ p H', Same H H' → H p = none → H' p = some (.dK ((sortR rs).map rKV)) → Q (.ref p) H') ∧ ∀ y, ovl rs = some y → Rz H E CO "name" (.str y)
def restX (ns : List Str) (rv : V) (ro : Option PyData) : Option (Nat × V) := if nonO ro = true then none else if nameO ro = false then some (1, rv) else if inNames ns ro = true then some (4, rv) else none
def sp_rrest (K : PySem.W.Frag) (Cs : Nat → Addr) : Sp := fun vs H Q E => ∃ (rv : V) (ro : Option PyData) (d : Addr) (rs : List Row), vs = [rv, .ref d] ∧ VD K H rv ro ∧ H d = some (.dK (rs.map rKV)) ∧ (restX (rs.map (·.1)) rv ro = none → ∀ H', Same H H' → Q .non H') ∧ ∀ q, restX (rs.map (·.1)) rv ro = some q → ExC [] H E Cs q
def lowV (s : Span) : List V := match s.1 with
  | none => [.int 0, .int 0]
  | some i => [.int 1, .int i]
def lowD (s : Span) : PyData := match s.1 with
  | none => .tuple [.int 0, .int 0]
  | some i => .tuple [.int 1, .int i]
def sp_lowp (K : PySem.W.Frag) : Sp := fun vs H Q _ => ∃ (a : Addr) (s : Span), vs = [.ref a] ∧ SqT K H a (spV s) ∧ ∀ p H', Same H H' → H p = none → H' p = some (.tup (lowV s)) → Q (.ref p) H'
theorem low_alike (l : List Str) {rs : List Row} : PySem.W.AllAlike (l.map fun y => lowD (rowOf rs y).2.2) := PySem.W.AllAlike.of fun a b => by
  unfold lowD
  cases (rowOf rs a).2.2.1 <;> cases (rowOf rs b).2.2.1 <;> simp [PySem.W.alike, PySem.W.alikeAll]
theorem low_sortable (l : List Str) {rs : List Row} : PySem.W.Sortable (l.map fun y => lowD (rowOf rs y).2.2) := PySem.W.Sortable.tuples fun y => by
  unfold lowD
  cases (rowOf rs y).2.2.1
  · exact ⟨_, _, rfl⟩
  · exact ⟨_, _, rfl⟩
theorem low_depth (s : Span) : (lowD s).depth ≤ 8 := by
  unfold lowD
  cases s.1 <;> simp [PyData.depth, PyData.depthAll]
theorem low_dp {K : PySem.W.Frag} {H : Hp} {p : Addr} {s : Span} (h : H p = some (.tup (lowV s))) : Dp K H (.ref p) (lowD s) := by
  unfold lowV at h
  unfold lowD
  cases e : s.1 with
  | none =>
    rw [e] at h
    exact .tup (SqT.of h) (.cons (.int 0) (.cons (.int 0) .nil))
  | some i =>
    rw [e] at h
    exact .tup (SqT.of h) (.cons (.int 1) (.cons (.int i) .nil))
theorem limV_scal (a b : Option Int) : scal (limV a) (limV b) = true := by
  cases a <;> cases b <;> rfl
/-- the table's own objects are no lists -/
theorem tabS_sx {H H' : Hp} {P : Addr} {q : Str} {xs : List Addr} (h : LamX.TabS H P q) (s : SX xs H H') (n : ∀ x ∈ xs, ∀ o, H x = some o → ∃ l, o = .lst l) : LamX.TabS H' P q := by
  obtain ⟨ps, h1, h2, h3⟩ := h
  refine ⟨ps, s _ _ (fun z => ?_) h1, h2, fun pos cv hc => ?_⟩
  · obtain ⟨l, e⟩ := n _ z _ h1
    cases e
  · obtain ⟨c, e1, e2⟩ := h3 pos cv hc
    refine ⟨c, e1, s _ _ (fun z => ?_) e2⟩
    obtain ⟨l, e⟩ := n _ z _ e2
    unfold LamX.CodeO at e
    cases e
theorem tup_sx {K : PySem.W.Frag} {H H' : Hp} {p a : Addr} {l vs : List V} (s : SX [p] H H') (hp : H p = some (.lst l)) (h : SqT K H a vs) : SqT K H' a vs := by
  rcases h with (h | ⟨o, h⟩) | h
  · exact .inl (.inl (s _ _ (by simpa using ne_of h hp (by intro z; cases z)) h))
  · exact .inl (.inr ⟨o, s _ _ (by simpa using ne_of h hp (by intro z; cases z)) h⟩)
  · exact .inr h
theorem sx_upd {p : Addr} {H H' : Hp} {o : HO} (s : SX [p] H H') : SX [p] H (upd H' p o) := fun b u n e => by
  rw [upd_ne (by simpa using n)]
  exact s b u n e
/-! ### the stretches of all keys -/
abbrev StR := Option Int × Option Int × V
def stV (s : StR) : List V := [limV s.1, limV s.2.1, s.2.2]
def strG (rv : V) : Option Int → List Row → List StR
  | _, [] => []
  | e, r :: t => (if (!decide (limV r.2.2.1 = limV e)) = true then [(e, r.2.2.1, rv)] else []) ++ ((r.2.2.1, r.2.2.2, V.str r.1) :: strG rv r.2.2.2 t)
def endG : Option Int → List Row → Option Int
  | e, [] => e
  | _, r :: t => endG r.2.2.2 t
def strT (rv : V) (rows : List Row) : List StR := if (!(!(strG rv none rows).isEmpty)) = true then strG rv none rows ++ [(endG none rows, none, rv)] else if (!decide (limV (endG none rows) = V.non)) = true then strG rv none rows ++ [(endG none rows, none, rv)] else strG rv none rows
theorem strG_snoc (rv : V) (r : Row) : ∀ (l : List Row) (e : Option Int), strG rv e (l ++ [r]) = strG rv e l ++ ((if (!decide (limV r.2.2.1 = limV (endG e l))) = true then [(endG e l, r.2.2.1, rv)] else []) ++ [(r.2.2.1, r.2.2.2, V.str r.1)])
  | [], e => rfl
  | x :: l, e => by
    show _ ++ (_ :: strG rv x.2.2.2 (l ++ [r])) = (_ ++ (_ :: strG rv x.2.2.2 l)) ++ _
    rw [strG_snoc rv r l, List.append_assoc, List.cons_append]
    rfl
theorem endG_snoc (r : Row) : ∀ (l : List Row) (e : Option Int), endG e (l ++ [r]) = r.2.2.2
  | [], e => rfl
  | x :: l, e => endG_snoc r l x.2.2.2
theorem strG_len (rv : V) : ∀ (l : List Row) (e : Option Int), (strG rv e l).length ≤ 2 * l.length
  | [], _ => Nat.le_refl _
  | r :: t, e => by
    have := strG_len rv t r.2.2.2
    unfold strG
    rw [List.length_append, List.length_cons, List.length_cons]
    split
    · rw [List.length_singleton]; omega
    · rw [List.length_nil]; omega
/-- the rows in the order of their low limits -/
def lowsS (rs : List Row) : List Str := (rs.map (·.1)).mergeSort (PySem.W.dataLe false fun y => lowD (rowOf rs y).2.2)
def ordR (rs : List Row) : List Row := (lowsS rs).map (rowOf rs)
/-- xs are the tuples of these stretches -/
def StAt (H : Hp) (xs : List V) (sts : List StR) : Prop := ∃ zs : List (Addr × StR), xs = zs.map (fun z => V.ref z.1) ∧ zs.map (·.2) = sts ∧ ∀ z ∈ zs, H z.1 = some (.tup (stV z.2))
theorem StAt.nd {H H' : Hp} {xs : List V} {sts : List StR} (s : ND H H') (h : StAt H xs sts) : StAt H' xs sts := by
  obtain ⟨zs, h1, h2, h3⟩ := h
  exact ⟨zs, h1, h2, fun z hz => s _ _ (h3 z hz) rfl⟩
theorem StAt.mono {H H' : Hp} {xs : List V} {sts : List StR} (s : Same H H') (h : StAt H xs sts) : StAt H' xs sts := h.nd (.of s)
theorem StAt.sx {H H' : Hp} {p : Addr} {l xs : List V} {sts : List StR} (hp : H p = some (.lst l)) (s : SX [p] H H') (h : StAt H xs sts) : StAt H' xs sts := by
  obtain ⟨zs, h1, h2, h3⟩ := h
  exact ⟨zs, h1, h2, fun z hz => s _ _ (by simpa using ne_of (h3 z hz) hp (by intro z; cases z)) (h3 z hz)⟩
theorem StAt.nil {H : Hp} : StAt H [] [] := ⟨[], rfl, rfl, fun z hz => (List.not_mem_nil hz).elim⟩
theorem StAt.snoc {H : Hp} {xs : List V} {sts : List StR} {t : Addr} {s : StR} (h : StAt H xs sts) (ht : H t = some (.tup (stV s))) : StAt H (xs ++ [.ref t]) (sts ++ [s]) := by
  obtain ⟨zs, h1, h2, h3⟩ := h
  refine ⟨zs ++ [(t, s)], by rw [h1, List.map_append]; rfl, by rw [List.map_append, h2]; rfl, fun z hz => ?_⟩
  rcases List.mem_append.mp hz with hz | hz
  · exact h3 z hz
  · rw [List.mem_singleton.mp hz]
    exact ht
theorem StAt.len {H : Hp} {xs : List V} {sts : List StR} (h : StAt H xs sts) : xs.length = sts.length := by
  obtain ⟨zs, h1, h2, h3⟩ := h
  rw [h1, ← h2, List.length_map, List.length_map]
/-- a list of the stretches stands at p -/
def StL (H : Hp) (p : Addr) (xs : List V) (rs : List Row) (rv : V) : Prop := H p = some (.lst xs) ∧ StAt H xs (strT rv (ordR rs))
theorem StL.nd {H H' : Hp} {p : Addr} {xs : List V} {rs : List Row} {rv : V} (s : ND H H') (h : StL H p xs rs rv) : StL H' p xs rs rv := ⟨s _ _ h.1 rfl, h.2.nd s⟩
theorem StL.mono {H H' : Hp} {p : Addr} {xs : List V} {rs : List Row} {rv : V} (s : Same H H') (h : StL H p xs rs rv) : StL H' p xs rs rv := h.nd (.of s)
def lamQ : Str := "all_stretches.<locals>.<lambda>"
def sp_allst (K : PySem.W.Frag) (P : Addr) : Sp := fun vs H Q _ => ∃ (d : Addr) (rv : V) (rs : List Row), vs = [.ref d, rv] ∧ H d = some (.dK (rs.map rKV)) ∧ RowsOk K H rs ∧ (rs.map (·.1)).Nodup ∧ rs.length ≤ 60 ∧ LamX.TabS H P lamQ ∧
  ∀ p H' xs, LamX.ExtN H H' → LamX.TabS H' P lamQ → H p = none → StL H' p xs rs rv → Q (.ref p) H'
/-! ### catalogs made -/
def EX (xs : List Addr) (H H' : Hp) : Prop := ∀ b o, b ∉ xs → H b = some o → (∀ ps, o ≠ .tbl ps) → H' b = some o
theorem EX.of {xs : List Addr} {H H' : Hp} (s : SX xs H H') : EX xs H H' := fun b o n e _ => s b o n e
theorem EX.same {xs : List Addr} {H H' : Hp} (s : Same H H') : EX xs H H' := fun b o _ e _ => s b o e
theorem EX.trans {xs : List Addr} {H H1 H2 : Hp} (a : EX xs H H1) (b : EX xs H1 H2) : EX xs H H2 := fun c o n e t => b c o n (a c o n e t) t
theorem EX.mono {xs ys : List Addr} {H H' : Hp} (a : EX xs H H') (h : ∀ x ∈ xs, x ∈ ys) : EX ys H H' := fun c o n e => a c o (fun z => n (h c z)) e
theorem EX.nd {xs : List Addr} {H H' : Hp} (s : EX xs H H') (n : ∀ x ∈ xs, ∀ o, H x = some o → seqO o = false) : ND H H' := fun b o e z => s b o (fun hb => by
  rw [n b hb o e] at z
  cases z) e fun ps w => by
  rw [w] at z
  cases z
inductive CaIn (K : PySem.W.Frag) (H : Hp) : V → Option (Option (Addr × List Ent)) → Prop
  | non : CaIn K H .non none
  | some {v : V} {o : Option (Addr × List Ent)} : SpIn K H v o → decide (v = .non) = false → CaIn K H v (some o)
def caR (v rv : V) (ro : Option PyData) : Option (Option (Addr × List Ent)) → Option (Nat × V)
  | none => catR [] rv ro
  | some none => some (0, v)
  | some (some (_, es)) => catF es rv ro
def caX : Option (Option (Addr × List Ent)) → List Addr
  | none => []
  | some o => spX o
/-- what a making that is refused leaves locked: the dict whose own entries are wrong -/
def caL : Option (Option (Addr × List Ent)) → List Addr
  | some (some (d, es)) => if (rsF es).isSome = true then [d] else []
  | _ => []
theorem caL_some {d : Addr} {es : List Ent} {q : Nat × V} (h : rsF es = some q) : caL (some (some (d, es))) = [d] := by
  show (if (rsF es).isSome = true then [d] else []) = [d]
  rw [h]
  rfl
theorem caL_none {d : Addr} {es : List Ent} (h : rsF es = none) : caL (some (some (d, es))) = [] := by
  show (if (rsF es).isSome = true then [d] else []) = []
  rw [h]
  rfl
theorem caL_spX {o : Option (Addr × List Ent)} {b : Addr} (h : b ∈ caL (some o)) : b ∈ spX o := by
  rcases o with _ | ⟨d, es⟩
  · exact h
  · cases e : rsF es with
    | none =>
      rw [caL_none e] at h
      exact (List.not_mem_nil h).elim
    | some q =>
      rw [caL_some e] at h
      exact h
def caRows : Option (Option (Addr × List Ent)) → List Row
  | some (some (_, es)) => rowsE es
  | _ => []
def rvO : Option Str → V
  | none => .non
  | some s => .str s
def rtO : Option PyData → Option Str
  | some (.str s) => some s
  | _ => none
def nmsC (rs : List Row) (rt : Option Str) : List Str := srtS (rs.map (·.1) ++ rt.toList)
def fs1 (d : Addr) : List (Str × V) := [("_spans", .ref d)]
def fs2 (d : Addr) (rv : V) : List (Str × V) := [("_spans", .ref d), ("_rest", rv)]
def fs3 (d : Addr) (rv : V) (l : Addr) : List (Str × V) := [("_spans", .ref d), ("_rest", rv), ("_names", .ref l)]
def fsC (d : Addr) (rv : V) (l p : Addr) : List (Str × V) := [("_spans", .ref d), ("_rest", rv), ("_names", .ref l), ("_stretches", .ref p)]
theorem fs1_eq (d : Addr) : putF "_spans" (.ref d) [] = fs1 d := rfl
theorem sn (a b : Str) (h : decide (a = b) = false := by decide +kernel) : ¬ a = b := of_decide_eq_false h
theorem fs2_eq (d : Addr) (rv : V) : putF "_rest" rv (fs1 d) = fs2 d rv := by
  simp [putF, fs1, fs2, sn "_spans" "_rest"]
theorem fs3_eq (d : Addr) (rv : V) (l : Addr) : putF "_names" (.ref l) (fs2 d rv) = fs3 d rv l := by
  simp [putF, fs2, fs3, sn "_spans" "_names", sn "_rest" "_names"]
theorem fsC_eq (d : Addr) (rv : V) (l p : Addr) : putF "_stretches" (.ref p) (fs3 d rv l) = fsC d rv l p := by
  simp [putF, fs3, fsC, sn "_spans" "_stretches", sn "_rest" "_stretches", sn "_names" "_stretches"]
theorem lk1 (d : Addr) : (fs1 d).lookup ("_spans" : Str) = some (.ref d) := by simp [fs1, List.lookup]
theorem lk2 (d : Addr) (rv : V) : (fs2 d rv).lookup ("_spans" : Str) = some (.ref d) := by simp [fs2, List.lookup]
theorem lk3 (d : Addr) (rv : V) (l : Addr) : (fs3 d rv l).lookup ("_spans" : Str) = some (.ref d) := by simp [fs3, List.lookup]
theorem lkS (d : Addr) (rv : V) (l p : Addr) : (fsC d rv l p).lookup ("_spans" : Str) = some (.ref d) := by simp [fsC, List.lookup]
theorem sb (a b : Str) (h : (a == b) = false := by decide +kernel) : (a == b) = false := h
theorem lkR (d : Addr) (rv : V) (l p : Addr) : (fsC d rv l p).lookup ("_rest" : Str) = some rv := by simp [fsC, List.lookup, sb "_rest" "_spans"]
theorem lkN (d : Addr) (rv : V) (l p : Addr) : (fsC d rv l p).lookup ("_names" : Str) = some (.ref l) := by simp [fsC, List.lookup, sb "_names" "_spans", sb "_names" "_rest"]
/-- a catalog stands at x: its rows, its rest part -/
def CatAt (K : PySem.W.Frag) (C : Addr) (H : Hp) (x : Addr) (rs : List Row) (rt : Option Str) : Prop := ∃ (dx d l p : Addr) (xs : List V), H x = some (.ins C dx (fsC d (rvO rt) l p)) ∧ H d = some (.dK ((sortR rs).map rKV)) ∧ H l = some (.lst ((nmsC rs rt).map V.str)) ∧ StL H p xs (sortR rs) (rvO rt) ∧ RowsOk K H rs
theorem CatAt.mono {K : PySem.W.Frag} {C : Addr} {H H' : Hp} {x : Addr} {rs : List Row} {rt : Option Str} (s : Same H H') (h : CatAt K C H x rs rt) : CatAt K C H' x rs rt := by
  obtain ⟨dx, d, l, p, xs, h1, h2, h3, h4, h5⟩ := h
  exact ⟨dx, d, l, p, xs, s _ _ h1, s _ _ h2, s _ _ h3, h4.mono s, h5.mono s⟩
/-- a catalog that was made: its parts are new against H0 -/
def CatNew (K : PySem.W.Frag) (C : Addr) (H0 H : Hp) (x : Addr) (rs : List Row) (rt : Option Str) : Prop := ∃ (dx d l p : Addr) (xs : List V), H x = some (.ins C dx (fsC d (rvO rt) l p)) ∧ H d = some (.dK ((sortR rs).map rKV)) ∧ H l = some (.lst ((nmsC rs rt).map V.str)) ∧ StL H p xs (sortR rs) (rvO rt) ∧ RowsOk K H rs ∧ H0 d = none ∧ H0 l = none ∧ H0 p = none
theorem CatNew.at_ {K : PySem.W.Frag} {C : Addr} {H0 H : Hp} {x : Addr} {rs : List Row} {rt : Option Str} (h : CatNew K C H0 H x rs rt) : CatAt K C H x rs rt := by
  obtain ⟨dx, d, l, p, xs, h1, h2, h3, h4, h5, _⟩ := h
  exact ⟨dx, d, l, p, xs, h1, h2, h3, h4, h5⟩
theorem CatNew.back {K : PySem.W.Frag} {C : Addr} {H0 H1 H : Hp} {x : Addr} {rs : List Row} {rt : Option Str} (s : Same H0 H1) (h : CatNew K C H1 H x rs rt) : CatNew K C H0 H x rs rt := by
  obtain ⟨dx, d, l, p, xs, h1, h2, h3, h4, h5, h6, h7, h8⟩ := h
  exact ⟨dx, d, l, p, xs, h1, h2, h3, h4, h5, s.free h6, s.free h7, s.free h8⟩
theorem CatNew.mono {K : PySem.W.Frag} {C : Addr} {H0 H H' : Hp} {x : Addr} {rs : List Row} {rt : Option Str} (s : Same H H') (h : CatNew K C H0 H x rs rt) : CatNew K C H0 H' x rs rt := by
  obtain ⟨dx, d, l, p, xs, h1, h2, h3, h4, h5, h6⟩ := h
  exact ⟨dx, d, l, p, xs, s _ _ h1, s _ _ h2, s _ _ h3, h4.mono s, h5.mono s, h6⟩
def sp_cinit (K : PySem.W.Frag) (C : Addr) (Cs : Nat → Addr) (P : Addr) : Sp := fun vs H Q E => ∃ (x dx : Addr) (v rv : V) (rd : PyData) (o : Option (Option (Addr × List Ent))), vs = [.ref x, v, rv] ∧ H x = some (.ins C dx []) ∧ CaIn K H v o ∧ VD K H rv (some rd) ∧ LamX.TabS H P lamQ ∧
  (∀ q, caR v rv (some rd) o = some q → ExC (x :: caL o) H E Cs q) ∧ (caR v rv (some rd) o = none → ∀ H', EX [x] H H' → LamX.TabS H' P lamQ → CatNew K C H H' x (caRows o) (rtO (some rd)) → rv = rvO (rtO (some rd)) → Q .non H')
theorem RzX.less {xs ys : List Addr} {H : Hp} {E : XK} {C : Addr} {f : Str} {v : V} (h : ∀ x ∈ xs, x ∈ ys) (k : RzX ys H E C f v) : RzX xs H E C f v := fun d H' n x s => k d H' n x (s.mono h)
theorem catF_of {es : List Ent} {rv : V} {ro : Option PyData} {q : Nat × V} (h : rsF es = some q) : catF es rv ro = some q := by
  unfold catF
  rw [h]
theorem catF_go {es : List Ent} {rv : V} {ro : Option PyData} (h : rsF es = none) : catF es rv ro = catR (rowsE es) rv ro := by
  unfold catF
  rw [h]
theorem catR_ovl {rs : List Row} {rv : V} {ro : Option PyData} {y : Str} (h : ovl rs = some y) : catR rs rv ro = some (3, .str y) := by
  unfold catR
  rw [h]
theorem catR_go {rs : List Row} {rv : V} {ro : Option PyData} (h : ovl rs = none) : catR rs rv ro = restR (rs.map (·.1)) rv ro := by
  unfold catR
  rw [h]
theorem inNames_congr {ns ms : List Str} (h : ∀ s, s ∈ ns ↔ s ∈ ms) (ro : Option PyData) : inNames ns ro = inNames ms ro := by
  rcases ro with _ | d
  · rfl
  · cases d with
    | str s => exact decide_eq_decide.mpr (h s)
    | _ => rfl
theorem restX_congr {ns ms : List Str} (h : ∀ s, s ∈ ns ↔ s ∈ ms) (rv : V) (ro : Option PyData) : restX ns rv ro = restX ms rv ro := by
  unfold restX
  rw [inNames_congr h]
theorem restR_X {ns : List Str} {rv : V} {ro : Option PyData} {q : Nat × V} (h : restX ns rv ro = some q) : restR ns rv ro = some q := by
  unfold restX at h
  unfold restR
  split
  · rename_i e
    rw [if_pos e] at h
    cases h
  · rename_i e
    rw [if_neg e] at h
    split
    · rename_i e2
      rw [if_pos e2] at h
      exact h
    · rename_i e2
      rw [if_neg e2] at h
      split
      · rename_i e3
        rw [if_pos e3] at h
        exact h
      · rename_i e3
        rw [if_neg e3] at h
        cases h
/-- behind require_rest: the rest is None or a name; only the number is left -/
theorem restX_none {K : PySem.W.Frag} {H : Hp} {ns : List Str} {rv : V} {ro : Option PyData} (hv : VD K H rv ro) (h : restX ns rv ro = none) : ∃ rt, rv = rvO rt ∧ rtO ro = rt ∧ nonO ro = rt.isNone ∧ (∀ s, rt = some s → nameS s = true ∧ s ∉ ns) ∧ restR ns rv ro = if 8 < ns.length + rt.toList.length then some (5, .int 8) else none := by
  unfold restX at h
  unfold restR
  cases e : nonO ro with
  | true =>
    refine ⟨none, ?_, ?_, rfl, (fun s z => nomatch z), ?_⟩
    · have := vd_non hv
      rw [e] at this
      exact of_decide_eq_true this
    · rcases ro with _ | d
      · rfl
      · cases d with
        | str s => cases e
        | _ => rfl
    · rw [if_pos rfl]
      rfl
  | false =>
    rw [e, if_neg Bool.false_ne_true] at h
    rw [if_neg Bool.false_ne_true]
    cases e1 : nameO ro with
    | false =>
      rw [if_pos e1] at h
      cases h
    | true =>
      rw [e1, if_neg (by decide)] at h
      rw [if_neg (by decide)]
      obtain ⟨s, rfl⟩ := nameO_s e1
      cases hv with
      | dat a b c =>
      cases a
      cases e2 : inNames ns (some (.str s)) with
      | true =>
        rw [if_pos e2] at h
        cases h
      | false =>
        refine ⟨some s, rfl, rfl, rfl, fun s' z => ?_, ?_⟩
        · cases z
          exact ⟨e1, of_decide_eq_false e2⟩
        · rw [if_neg Bool.false_ne_true]
          rfl
theorem sx_free {x : Addr} {H Ha : Hp} {o : HO} (s : SX [x] H Ha) (h : Ha x = some o) (b : Addr) (n : Ha b = none) : H b = none := by
  cases q : H b with
  | none => rfl
  | some u =>
    by_cases z : b = x
    · rw [z, h] at n
      cases n
    · rw [s b u (by simpa using z) q] at n
      cases n
theorem keysV (rs : List Row) : ((sortR rs).map rKV).map (fun q => kV q.1) = (srtS (rs.map (·.1))).map V.str := by
  rw [← sortR_names, List.map_map, List.map_map]
  rfl
theorem rsF_nil : rsF [] = none := rsF_of_good (es := []) List.nodup_nil fun e he => (List.not_mem_nil he).elim
theorem rows_nodup {rs : List Row} (h : nodK (rs.map rE)) : (rs.map (·.1)).Nodup := by
  unfold nodK at h
  rw [List.map_map] at h
  have : ((fun e : Ent => e.1) ∘ rE) = (fun r : Row => (Sum.inr r.1 : Key)) := rfl
  rw [this] at h
  unfold List.Nodup at h ⊢
  rw [List.pairwise_map] at h ⊢
  exact h.imp fun k e => k (by rw [e])
def sp_cnames (K : PySem.W.Frag) (C : Addr) : Sp := fun vs H Q _ => ∃ (x : Addr) (rs : List Row) (rt : Option Str), vs = [.ref x] ∧ CatAt K C H x rs rt ∧ (nmsC rs rt).length ≤ 1000 ∧ ∀ p, H p = none → Q (.ref p) (upd H p (.lst ((nmsC rs rt).map V.str)))
def sortD (rs : List Row) : List (Key × PyData) := (sortR rs).map fun r => (.inr r.1, spD r.2.2)
def ceqB (rs rs' : List Row) (rt rt' : Option Str) : Bool := (rs.length == rs'.length && entsEq (sortD rs) (sortD rs')) && decide (rt = rt')
theorem ents_rows {K : PySem.W.Frag} {H : Hp} : ∀ {rs : List Row}, RowsOk K H rs → Ents K H (rs.map rKV) (rs.map fun r => (.inr r.1, spD r.2.2))
  | [], _ => .nil
  | r :: t, h => .cons (.tup (h r List.mem_cons_self).1 (dpAll_spV _)) (shaped_sp _) (ents_rows fun x hx => h x (List.mem_cons_of_mem _ hx))
theorem rvO_dec (a b : Option Str) : decide (rvO a = rvO b) = decide (a = b) := by
  rw [decide_eq_decide]
  constructor
  · intro h
    cases a <;> cases b <;> simp [rvO] at h <;> simp [h]
  · intro h
    rw [h]
theorem rvO_scal (a b : Option Str) : scal (rvO a) (rvO b) = true := by
  cases a <;> cases b <;> rfl
/-- x == z, x a catalog -/
def sp_ceq (K : PySem.W.Frag) (C : Addr) : Sp := fun vs H Q _ => ∃ (x : Addr) (z : V) (rs : List Row) (rt : Option Str), vs = [.ref x, z] ∧ CatAt K C H x rs rt ∧
  ((∃ t, TyX K H z t ∧ PySem.W.kitOne K t (.ref C) = some false ∧ Q (.bl false) H) ∨ ∃ y rs' rt', z = .ref y ∧ CatAt K C H y rs' rt' ∧ Q (.bl (ceqB rs rs' rt rt')) H)
/-! ### the law's side of catalogs -/
def ok2 : Option Int → Option Int → Bool
  | some l, some h => decide (l < h)
  | _, _ => true
def meetL (s t : Span) : Bool := ok2 s.1 t.2 && ok2 t.1 s.2
theorem meetL_eq {s t : Span} (hs : okS s = true) (ht : okS t = true) : meetL s t = meetB s t := by
  obtain ⟨a, b⟩ := s
  obtain ⟨c, d⟩ := t
  unfold meetL meetB comS
  cases a <;> cases b <;> cases c <;> cases d <;> simp [ok2, okS, maxO, minO] at hs ht ⊢
  all_goals
    first
      | omega
      | (rw [Bool.eq_iff_iff]; simp; omega)
def sp_lmeet (K : PySem.W.Frag) : Sp := fun vs H Q _ => ∃ (a b : Addr) (s t : Span), vs = [.ref a, .ref b] ∧ SqT K H a (spV s) ∧ SqT K H b (spV t) ∧ ∀ H', Same H H' → Q (.bl (meetL s t)) H'
def wC : Nat → Str
  | 0 => "spans"
  | 1 => "name"
  | 2 => "span"
  | 3 => "overlap"
  | 4 => "taken"
  | _ => "many"
def sp_ldue (K : PySem.W.Frag) : Sp := fun vs H Q _ => ∃ (d : Addr) (es : List Ent) (rv : V) (rd : PyData), vs = [.ref d, rv] ∧ H d = some (.dK (es.map kvE)) ∧ EV K H es ∧ nodK es ∧ es.length ≤ 60 ∧ VD K H rv (some rd) ∧
  (∀ n w, catF es rv (some rd) = some (n, w) → ∀ H' p, Same H H' → H p = none → H' p = some (.lst [.str (wC n), w]) → Q (.ref p) H') ∧
  (catF es rv (some rd) = none → ∀ H' p l, Same H H' → H p = none → H' p = some (.lst [.str "made", .ref l]) → H' l = some (.lst ((srtS (nmsE es ++ (rtO (some rd)).toList)).map V.str)) → Q (.ref p) H')
theorem nameC_len {s : Str} (h : nameS s = true) : s.length ≤ 8 := by
  unfold nameS at h
  rw [Bool.and_eq_true, Bool.and_eq_true, Bool.and_eq_true, decide_eq_true_iff, decide_eq_true_iff] at h
  omega
theorem nameC_ok {s : Str} (h : nameS s = true) : PyData.strOk s = true := by
  unfold nameS at h
  rw [Bool.and_eq_true, Bool.and_eq_true, Bool.and_eq_true] at h
  refine strOk_iff.mpr fun c hc => ?_
  have := List.all_eq_true.mp h.2.2.2 c hc
  rw [okSign_is, decide_eq_true_iff] at this
  have all : ∀ c ∈ ("abcdefghijklmnopqrstuvwxyz" : Str).cps.toList, c < 0x110000 := by decide +kernel
  exact all c this
theorem strsC_sh {ss : List Str} (h : ∀ s ∈ ss, nameS s = true) : SeqAt.shaped (.list (ss.map PyData.str)) = true := shaped_list (n := 0) (by decide) fun d hd => by
  obtain ⟨s, hs, rfl⟩ := List.mem_map.mp hd
  refine ⟨?_, by simp [PyData.depth]⟩
  simp only [PyData.canLay0]
  exact nameC_ok (h s hs)
theorem filt_any {α : Type} (p : α → Bool) (l : List α) : (l.filter p).isEmpty = !l.any p := by
  induction l with
  | nil => rfl
  | cons a t ih =>
    rw [List.filter_cons, List.any_cons]
    cases h : p a with
    | true => rfl
    | false => simpa [h] using ih
theorem sortR_take (rs : List Row) (k : Nat) : (sortR rs).take k = ((srtS (rs.map (·.1))).take k).map (rowOf rs) := by
  unfold sortR
  rw [List.map_take]
/-- the overlap, looked at by names -/
theorem any_rows {rs : List Row} {K : PySem.W.Frag} {H : Hp} (hrs : RowsOk K H rs) {y : Str} (hy : y ∈ rs.map (·.1)) (k : Nat) :
    ((sortR rs).take k).any (fun q => meetB q.2.2 (rowOf rs y).2.2) = ((srtS (rs.map (·.1))).take k).any fun z => meetL (rowOf rs z).2.2 (rowOf rs y).2.2 := by
  rw [sortR_take, List.any_map]
  have h1 := (hrs _ (rowOf_mem hy).1).2.1
  rw [Bool.eq_iff_iff, List.any_eq_true, List.any_eq_true]
  constructor
  · rintro ⟨z, hz, e⟩
    refine ⟨z, hz, ?_⟩
    rw [meetL_eq (hrs _ (rowOf_mem (srt_mem.mp (List.mem_of_mem_take hz))).1).2.1 h1]
    exact e
  · rintro ⟨z, hz, e⟩
    refine ⟨z, hz, ?_⟩
    rw [meetL_eq (hrs _ (rowOf_mem (srt_mem.mp (List.mem_of_mem_take hz))).1).2.1 h1] at e
    exact e
def sp_ltold (K : PySem.W.Frag) (P : Addr) : Sp := fun vs H Q _ => ∃ (v rv : V) (rd : PyData) (o : Option (Addr × List Ent)), vs = [v, rv] ∧ SpIn K H v o ∧ decide (v = .non) = false ∧ VD K H rv (some rd) ∧ LamX.TabS H P lamQ ∧
  (∀ n w, caR v rv (some rd) (some o) = some (n, w) → ∀ H' p, EX (spX o) H H' → LamX.TabS H' P lamQ → H' p = some (.lst [.str (wC n), w]) → Q (.ref p) H') ∧
  (caR v rv (some rd) (some o) = none → ∀ H' p l, EX (spX o) H H' → LamX.TabS H' P lamQ → H' p = some (.lst [.str "made", .ref l]) → H' l = some (.lst ((nmsC (caRows (some o)) (rtO (some rd))).map V.str)) → Q (.ref p) H')
theorem restR_le {ns : List Str} {rv : V} {ro : Option PyData} {n : Nat} {w : V} (h : restR ns rv ro = some (n, w)) : n = 1 ∨ n = 4 ∨ n = 5 := by
  unfold restR at h
  split at h
  · split at h
    · cases h
      exact .inr (.inr rfl)
    · cases h
  · split at h
    · cases h
      exact .inl rfl
    · split at h
      · cases h
        exact .inr (.inl rfl)
      · split at h
        · cases h
          exact .inr (.inr rfl)
        · cases h
theorem rsF_le {es : List Ent} {n : Nat} {w : V} (h : rsF es = some (n, w)) : n = 1 ∨ n = 2 := by
  unfold rsF at h
  split at h
  · cases h
    exact .inl rfl
  · split at h
    · cases h
      exact .inr rfl
    · cases h
theorem catR_le {rs : List Row} {rv : V} {ro : Option PyData} {n : Nat} {w : V} (h : catR rs rv ro = some (n, w)) : n = 1 ∨ n = 3 ∨ n = 4 ∨ n = 5 := by
  unfold catR at h
  split at h
  · cases h
    exact .inr (.inl rfl)
  · rcases restR_le h with e | e | e
    · exact .inl e
    · exact .inr (.inr (.inl e))
    · exact .inr (.inr (.inr e))
theorem caR_le {v rv : V} {ro : Option PyData} {o : Option (Option (Addr × List Ent))} {n : Nat} {w : V} (h : caR v rv ro o = some (n, w)) : n = 0 ∨ n = 1 ∨ n = 2 ∨ n = 3 ∨ n = 4 ∨ n = 5 := by
  rcases o with _ | (_ | ⟨d, es⟩)
  · rcases catR_le h with e | e | e | e <;> simp [e]
  · cases h
    exact .inl rfl
  · have h : catF es rv ro = some (n, w) := h
    unfold catF at h
    split at h
    · cases h
      rename_i e
      rcases rsF_le e with e | e <;> simp [e]
    · rcases catR_le h with e | e | e | e <;> simp [e]
theorem restX_of {ns : List Str} {rv : V} {ro : Option PyData} (h : restR ns rv ro = none) : restX ns rv ro = none := by
  cases e : restX ns rv ro with
  | none => rfl
  | some q =>
    rw [restR_X e] at h
    cases h
theorem catR_rest {K : PySem.W.Frag} {H : Hp} {rs : List Row} {rv : V} {rd : PyData} (hv : VD K H rv (some rd)) (h : catR rs rv (some rd) = none) : rv = rvO (rtO (some rd)) ∧ ∀ s, rtO (some rd) = some s → nameS s = true ∧ s ∉ rs.map (·.1) := by
  unfold catR at h
  split at h
  · cases h
  · obtain ⟨rt, h1, h2, _, h4, _⟩ := restX_none hv (restX_of h)
    rw [h2]
    exact ⟨h1, h4⟩
theorem caR_good {d : Addr} {es : List Ent} {v rv : V} {ro : Option PyData} (h : caR v rv ro (some (some (d, es))) = none) : rsF es = none ∧ catR (rowsE es) rv ro = none := by
  have h : catF es rv ro = none := h
  unfold catF at h
  split at h
  · cases h
  · rename_i e
    exact ⟨e, h⟩
theorem lkM (d : Addr) (rv : V) (l p : Addr) : (fsC d rv l p).lookup ("names" : Str) = none := by simp [fsC, List.lookup, sb "names" "_spans", sb "names" "_rest", sb "names" "_names", sb "names" "_stretches"]
theorem tabS_dk {H H' : Hp} {P : Addr} {q : Str} {xs : List Addr} (h : LamX.TabS H P q) (s : SX xs H H') (n : ∀ x ∈ xs, ∀ o, H x = some o → ∃ l, o = .dK l) : LamX.TabS H' P q := by
  obtain ⟨ps, h1, h2, h3⟩ := h
  refine ⟨ps, s _ _ (fun z => ?_) h1, h2, fun pos cv hc => ?_⟩
  · obtain ⟨l, e⟩ := n _ z _ h1
    cases e
  · obtain ⟨c, e1, e2⟩ := h3 pos cv hc
    refine ⟨c, e1, s _ _ (fun z => ?_) e2⟩
    obtain ⟨l, e⟩ := n _ z _ e2
    unfold LamX.CodeO at e
    cases e
theorem spX_dk {K : PySem.W.Frag} {H : Hp} {v : V} {o : Option (Addr × List Ent)} (h : SpIn K H v o) : ∀ x ∈ spX o, ∀ u, H x = some u → ∃ l, u = .dK l := by
  cases h with
  | no a b => exact fun x hx => (List.not_mem_nil hx).elim
  | dict a b c d =>
    intro x hx u e
    rw [List.mem_singleton.mp hx, a] at e
    cases e
    exact ⟨_, rfl⟩
theorem nmsC_len (rs : List Row) (rt : Option Str) : (nmsC rs rt).length = rs.length + rt.toList.length := by
  unfold nmsC
  rw [srt_len, List.length_append, List.length_map]
theorem SpIn.mono {K : PySem.W.Frag} {H H' : Hp} {v : V} {o : Option (Addr × List Ent)} (s : Same H H') (h : SpIn K H v o) : SpIn K H' v o := by
  cases h with
  | no a b => exact .no (a.mono s) b
  | dict a b c d => exact .dict (s _ _ a) (b.mono s) c d
/-! ### rows drawn: (where the row stands, its name, where its span stands, the span) -/
abbrev MRow := Addr × Str × Addr × Span
def Chain (ss : List Span) : Prop := ss.Pairwise fun s t => ∃ h l, s.2 = some h ∧ t.1 = some l ∧ h ≤ l
def rowAt (H : Hp) (r : MRow) : Prop := H r.1 = some (.lst [.str r.2.1, .ref r.2.2.1]) ∧ H r.2.2.1 = some (.tup (spV r.2.2.2))
/-- a model stands at q: its rows, the rest part or None, the names that are left -/
structure MdAt (H : Hp) (q : Addr) (rr : List MRow) (rt : Option Str) (left : List Str) : Prop where
  at_ : ∃ lr ll, H q = some (.lst [.ref lr, rvO rt, .ref ll]) ∧ H lr = some (.lst (rr.map fun r => V.ref r.1)) ∧ H ll = some (.lst (left.map V.str))
  rows : ∀ r ∈ rr, rowAt H r
  ok : ∀ r ∈ rr, okS r.2.2.2 = true
  chain : Chain (rr.map (·.2.2.2))
  nms : ∀ s ∈ rr.map (·.2.1) ++ (rt.toList ++ left), nameS s = true
  nd : (rr.map (·.2.1) ++ (rt.toList ++ left)).Nodup
theorem MdAt.mono {H H' : Hp} {q : Addr} {rr : List MRow} {rt : Option Str} {left : List Str} (s : Same H H') (h : MdAt H q rr rt left) : MdAt H' q rr rt left := by
  obtain ⟨⟨lr, ll, h1, h2, h3⟩, h4, h5, h6, h7, h8⟩ := h
  exact ⟨⟨lr, ll, s _ _ h1, s _ _ h2, s _ _ h3⟩, fun r hr => ⟨s _ _ (h4 r hr).1, s _ _ (h4 r hr).2⟩, h5, h6, h7, h8⟩
/-- a small limit -/
def smI : Option Int → Prop
  | none => True
  | some i => i.natAbs < 10 ^ 30
def SmL (ss : List Span) : Prop := ∀ s ∈ ss, okS s = true ∧ smI s.1 ∧ smI s.2
def LowB (ss : List Span) (z : Int) : Prop := ∀ s ∈ ss, ∃ a, s.1 = some a ∧ z ≤ a
theorem small_at {z g a : Int} {n : Nat} (hg : 0 < g) (hg2 : g ≤ 10 ^ 27) (h1 : 0 ≤ z) (h2 : z < 19) (hn : n ≤ 9) (h3 : (z - 9) * g ≤ a) (h4 : a ≤ (z - 9) * g + n * (14 * g)) : a.natAbs < 10 ^ 30 := by
  have e1 : (-9) * g ≤ (z - 9) * g := Int.mul_le_mul_of_nonneg_right (by omega) (Int.le_of_lt hg)
  have e2 : (z - 9) * g ≤ 9 * g := Int.mul_le_mul_of_nonneg_right (by omega) (Int.le_of_lt hg)
  have e3 : (n : Int) * (14 * g) ≤ 9 * (14 * g) := Int.mul_le_mul_of_nonneg_right (by omega) (by omega)
  generalize (z - 9) * g = x at *
  generalize (n : Int) * (14 * g) = y at *
  omega
def sp_lmodel : Sp := fun vs H Q _ => ∃ (H0 : Hp) (p : Addr) (n m : Nat), vs = [.ref p, .int m] ∧ BoxIn H0 H p n ∧ m ≤ 9 ∧ n + 100 < 1000000 ∧
  ∀ (H1 H' : Hp) (q : Addr) (rr : List MRow) (rt : Option Str) (left : List Str), Same H0 H1 → BoxIn H1 H' p (n + 100) → MdAt H1 q rr rt left → rr.length ≤ m → m + 3 = rr.length + left.length → SmL (rr.map (·.2.2.2)) → Q (.ref q) H'
theorem sxB {H H' : Hp} {p : Addr} {n : Nat} (b : BoxIn (but H p) H' p n) : SX [p] H H' := fun c o nc e => b.same c o (by rw [but_ne (by simpa using nc)]; exact e)
/-- rows while they are made -/
structure MdIn (H0 H : Hp) (p q lr : Addr) (ss : List Str) (rr : List MRow) : Prop where
  qp : q ≠ p
  nm : H q = some (.lst (ss.map V.str))
  lp : lr ≠ p
  ql : q ≠ lr
  l0 : H0 lr = none
  lst : H lr = some (.lst (rr.map fun r => V.ref r.1))
  rows : ∀ r ∈ rr, rowAt H r ∧ r.1 ≠ p ∧ H0 r.1 = none ∧ r.1 ≠ lr ∧ r.2.2.1 ≠ p ∧ r.1 ≠ q
  nd : (rr.map (·.1)).Nodup
  eq : rr.map (·.2.1) = ss.take rr.length
theorem MdIn.sx {H0 H H' : Hp} {p q lr : Addr} {ss : List Str} {rr : List MRow} (s : SX [p] H H') (h : MdIn H0 H p q lr ss rr) : MdIn H0 H' p q lr ss rr := by
  have k : ∀ {b : Addr} {o : HO}, b ≠ p → H b = some o → H' b = some o := fun n e => s _ _ (by simpa using n) e
  exact ⟨h.qp, k h.qp h.nm, h.lp, h.ql, h.l0, k h.lp h.lst, fun r hr => by
    obtain ⟨⟨a1, a2⟩, a3, a4, a5, a6, a7⟩ := h.rows r hr
    exact ⟨⟨k a3 a1, k a6 a2⟩, a3, a4, a5, a6, a7⟩, h.nd, h.eq⟩
/-- spans one behind another, all limits there, up to at -/
def Line (sp : List Span) (z : Int) : Prop := Chain sp ∧ ∀ s ∈ sp, ∃ a b, s = (some a, some b) ∧ a < b ∧ b ≤ z
theorem Line.snoc {sp : List Span} {z a b : Int} (h : Line sp z) (h1 : z ≤ a) (h2 : a < b) : Line (sp ++ [(some a, some b)]) b := by
  refine ⟨List.pairwise_append.mpr ⟨h.1, List.pairwise_singleton _ _, fun s hs t ht => ?_⟩, fun s hs => ?_⟩
  · obtain ⟨c, d, rfl, _, e⟩ := h.2 s hs
    rw [List.mem_singleton.mp ht]
    exact ⟨d, a, rfl, rfl, by omega⟩
  · rcases List.mem_append.mp hs with hs | hs
    · obtain ⟨c, d, rfl, e1, e2⟩ := h.2 s hs
      exact ⟨c, d, rfl, e1, by omega⟩
    · rw [List.mem_singleton.mp hs]
      exact ⟨a, b, rfl, h2, Int.le_refl _⟩
theorem Line.ok {sp : List Span} {z : Int} (h : Line sp z) : ∀ s ∈ sp, okS s = true := fun s hs => by
  obtain ⟨a, b, rfl, e, _⟩ := h.2 s hs
  exact decide_eq_true e
theorem md_dp {K : PySem.W.Frag} {H : Hp} : ∀ {rr : List MRow}, (∀ r ∈ rr, rowAt H r) → DpAll K H (rr.map fun r => V.ref r.1) (rr.map fun r => PyData.list [.str r.2.1, spD r.2.2.2])
  | [], _ => .nil
  | r :: t, h => .cons (.lst (SqL.of (h r List.mem_cons_self).1) (.cons (.str _) (.cons (.tup (SqT.of (h r List.mem_cons_self).2) (dpAll_spV _)) .nil))) (md_dp fun x hx => h x (List.mem_cons_of_mem _ hx))
theorem md_sh {rr : List MRow} (h : ∀ r ∈ rr, nameS r.2.1 = true) : SeqAt.shaped (.list (rr.map fun r => PyData.list [.str r.2.1, spD r.2.2.2])) = true := shaped_list (n := 2) (by decide) fun d hd => by
  obtain ⟨r, hr, rfl⟩ := List.mem_map.mp hd
  have s2 := shaped_sp r.2.2.2
  obtain ⟨c1, c2⟩ := shaped_iff.mp s2
  constructor
  · simp only [PyData.canLay0]
    refine canAll_mem.mpr fun d hd => ?_
    simp only [List.mem_cons, List.not_mem_nil, or_false] at hd
    rcases hd with rfl | rfl
    · simp only [PyData.canLay0]
      exact nameC_ok (h r hr)
    · exact c1
  · have h1 : (spD r.2.2.2).depth ≤ 1 := by
      unfold spD
      have : PyData.depthAll [limD r.2.2.2.1, limD r.2.2.2.2] ≤ 0 := depthAll_le fun d hd => by
        simp only [List.mem_cons, List.not_mem_nil, or_false] at hd
        rcases hd with rfl | rfl
        · cases r.2.2.2.1 <;> simp [limD, PyData.depth]
        · cases r.2.2.2.2 <;> simp [limD, PyData.depth]
      simp only [PyData.depth]
      omega
    have : PyData.depthAll [.str r.2.1, spD r.2.2.2] ≤ 1 := depthAll_le fun d hd => by
      simp only [List.mem_cons, List.not_mem_nil, or_false] at hd
      rcases hd with rfl | rfl
      · simp [PyData.depth]
      · exact h1
    simp only [PyData.depth]
    omega
/-- a row gets another span -/
theorem MdIn.rep {H0 H : Hp} {p q lr t : Addr} {ss : List Str} {pre post : List MRow} {r : MRow} {s' : Span} (M : MdIn H0 H p q lr ss (pre ++ r :: post)) (ht : H t = none) (tp : t ≠ p) :
    MdIn H0 (upd (upd H t (.tup (spV s'))) r.1 (.lst [.str r.2.1, .ref t])) p q lr ss (pre ++ (r.1, r.2.1, t, s') :: post) := by
  have hr := M.rows r (List.mem_append_right _ List.mem_cons_self)
  obtain ⟨⟨a1, a2⟩, a3, a4, a5, a6, a7⟩ := hr
  have s1 := same_new (o := .tup (spV s')) ht
  have tr : t ≠ r.1 := (ne_of_none a1 ht).symm
  have up : ∀ {b : Addr} {o : HO}, b ≠ r.1 → H b = some o → (upd (upd H t (.tup (spV s'))) r.1 (.lst [.str r.2.1, .ref t])) b = some o := fun n e => by
    rw [upd_ne n]
    exact s1 _ _ e
  have nd := M.nd
  rw [List.map_append, List.map_cons] at nd
  have e1 : (pre ++ (r.1, r.2.1, t, s') :: post).map (fun x => V.ref x.1) = (pre ++ r :: post).map fun x => V.ref x.1 := by
    rw [List.map_append, List.map_append, List.map_cons, List.map_cons]
  have e2 : (pre ++ (r.1, r.2.1, t, s') :: post).map (·.1) = (pre ++ r :: post).map (·.1) := by
    rw [List.map_append, List.map_append, List.map_cons, List.map_cons]
  have e3 : (pre ++ (r.1, r.2.1, t, s') :: post).map (·.2.1) = (pre ++ r :: post).map (·.2.1) := by
    rw [List.map_append, List.map_append, List.map_cons, List.map_cons]
  have e4 : (pre ++ (r.1, r.2.1, t, s') :: post).length = (pre ++ r :: post).length := by
    rw [List.length_append, List.length_append, List.length_cons, List.length_cons]
  have oth : ∀ x, x ∈ pre ++ post → x.1 ≠ r.1 ∧ x ∈ pre ++ r :: post := fun x hx => by
    obtain ⟨n1, n2, n3⟩ := List.nodup_append.mp nd
    rcases List.mem_append.mp hx with hx | hx
    · exact ⟨n3 _ (List.mem_map.mpr ⟨x, hx, rfl⟩) _ List.mem_cons_self, List.mem_append_left _ hx⟩
    · exact ⟨fun z => (List.nodup_cons.mp n2).1 (by rw [← z]; exact List.mem_map.mpr ⟨x, hx, rfl⟩), List.mem_append_right _ (List.mem_cons_of_mem _ hx)⟩
  refine ⟨M.qp, up (fun z => a7 z.symm) M.nm, M.lp, M.ql, M.l0, by rw [e1]; exact up (fun z => a5 z.symm) M.lst, fun x hx => ?_, by rw [e2]; exact M.nd, by rw [e3, e4]; exact M.eq⟩
  by_cases h : x = (r.1, r.2.1, t, s')
  · rw [h]
    exact ⟨⟨upd_same, by rw [upd_ne tr, upd_same]⟩, a3, a4, a5, tp, a7⟩
  · have hx : x ∈ pre ++ post := by
      rcases List.mem_append.mp hx with hx | hx
      · exact List.mem_append_left _ hx
      · rcases List.mem_cons.mp hx with hx | hx
        · exact absurd hx h
        · exact List.mem_append_right _ hx
    obtain ⟨n1, n2⟩ := oth x hx
    obtain ⟨⟨b1, b2⟩, b3, b4, b5, b6, b7⟩ := M.rows x n2
    exact ⟨⟨up n1 b1, up (ne_of b2 a1 (by intro z; cases z)) b2⟩, b3, b4, b5, b6, b7⟩
theorem chain_head {s t : Span} {r : List Span} (h : Chain (s :: r)) (e : t.2 = s.2) : Chain (t :: r) := by
  obtain ⟨h1, h2⟩ := List.pairwise_cons.mp h
  exact List.pairwise_cons.mpr ⟨fun x hx => by rw [e]; exact h1 x hx, h2⟩
theorem chain_last {s t : Span} {r : List Span} (h : Chain (r ++ [s])) (e : t.1 = s.1) : Chain (r ++ [t]) := by
  obtain ⟨h1, h2, h3⟩ := List.pairwise_append.mp h
  refine List.pairwise_append.mpr ⟨h1, List.pairwise_singleton _ _, fun a ha b hb => ?_⟩
  rw [List.mem_singleton.mp hb, e]
  exact h3 a ha s List.mem_cons_self
theorem md_names {H0 H : Hp} {p q lr : Addr} {ss : List Str} {rr : List MRow} (M : MdIn H0 H p q lr ss rr) (h : ∀ s ∈ ss, nameS s = true) : ∀ r ∈ rr, nameS r.2.1 = true := fun r hr => by
  have : r.2.1 ∈ rr.map (·.2.1) := List.mem_map.mpr ⟨r, hr, rfl⟩
  rw [M.eq] at this
  exact h _ (List.mem_of_mem_take this)
/-! ### pairs, bent -/
abbrev PRow := Addr × Ent
structure PairsAt (K : PySem.W.Frag) (H : Hp) (q : Addr) (ps : List PRow) : Prop where
  lst : H q = some (.lst (ps.map fun r => V.ref r.1))
  rows : ∀ r ∈ ps, H r.1 = some (.tup [kV r.2.1, r.2.2.1])
  ev : EV K H (ps.map (·.2))
def sp_lbent (K : PySem.W.Frag) : Sp := fun vs H Q _ => ∃ (H0 : Hp) (p : Addr) (n : Nat) (q : Addr) (ps : List PRow) (sp : Str), vs = [.ref p, .ref q, .str sp] ∧ BoxIn H0 H p n ∧ PairsAt K H0 q ps ∧ ps.length ≤ 50 ∧ nameS sp = true ∧ n + 8 < 1000000 ∧
  ∀ (H1 H' : Hp) (q' : Addr) (ps' : List PRow), Same H0 H1 → BoxIn H1 H' p (n + 8) → PairsAt K H1 q' ps' → ps'.length ≤ ps.length + 3 → Q (.ref q') H'
theorem but_leC (H : Hp) (x : Addr) : Same (but H x) H := fun b u e => by
  by_cases z : b = x
  · rw [z, but_same] at e
    cases e
  · rw [but_ne z] at e
    exact e
/-- pairs while they are bent -/
def rowIn (K : PySem.W.Frag) (H : Hp) (p l : Addr) (r : PRow) : Prop := r.1 ≠ p ∧ r.1 ≠ l ∧ H r.1 = some (.tup [kV r.2.1, r.2.2.1]) ∧ VD K (but (but H p) l) r.2.2.1 (some r.2.2.2) ∧ keyOk r.2.1
structure BIn (K : PySem.W.Frag) (H0 H : Hp) (p l : Addr) (ps : List PRow) : Prop where
  lp : l ≠ p
  l0 : H0 l = none
  lst : H l = some (.lst (ps.map fun r => V.ref r.1))
  rows : ∀ r ∈ ps, rowIn K H p l r
theorem but2_sx {H H' : Hp} {p l : Addr} (s : SX [p, l] H H') : Same (but (but H p) l) (but (but H' p) l) := fun b o e => by
  by_cases h1 : b = l
  · rw [h1, but_same] at e
    cases e
  · rw [but_ne h1] at e ⊢
    by_cases h2 : b = p
    · rw [h2, but_same] at e
      cases e
    · rw [but_ne h2] at e ⊢
      exact s _ _ (by simp [h1, h2]) e
theorem rowIn.sx {K : PySem.W.Frag} {H H' : Hp} {p l : Addr} {r : PRow} (s : SX [p, l] H H') (h : rowIn K H p l r) : rowIn K H' p l r := by
  obtain ⟨h1, h2, h3, h4, h5⟩ := h
  exact ⟨h1, h2, s _ _ (by simp [h1, h2]) h3, h4.mono (but2_sx s), h5⟩
theorem BIn.sx {K : PySem.W.Frag} {H0 H H' : Hp} {p l : Addr} {ps : List PRow} (s : SX [p] H H') (M : BIn K H0 H p l ps) : BIn K H0 H' p l ps :=
  ⟨M.lp, M.l0, s _ _ (by simpa using M.lp) M.lst, fun r hr => (M.rows r hr).sx (s.mono (by simp))⟩
theorem BIn.put {K : PySem.W.Frag} {H0 H : Hp} {p l : Addr} {ps ps' : List PRow} (M : BIn K H0 H p l ps) (h : ∀ r ∈ ps', rowIn K H p l r) : BIn K H0 (upd H l (.lst (ps'.map fun r => V.ref r.1))) p l ps' :=
  ⟨M.lp, M.l0, upd_same, fun r hr => (h r hr).sx fun b o n e => by
    rw [upd_ne (fun z => n (by simp [z]))]
    exact e⟩
theorem BIn.at_ {K : PySem.W.Frag} {H0 H : Hp} {p l : Addr} {ps : List PRow} (M : BIn K H0 H p l ps) : PairsAt K (but H p) l ps := by
  refine ⟨by rw [but_ne M.lp]; exact M.lst, fun r hr => ?_, fun e he => ?_⟩
  · obtain ⟨h1, h2, h3, h4, h5⟩ := M.rows r hr
    rw [but_ne h1]
    exact h3
  · obtain ⟨r, hr, rfl⟩ := List.mem_map.mp he
    obtain ⟨h1, h2, h3, h4, h5⟩ := M.rows r hr
    exact ⟨h4.mono (but_leC _ _), h5⟩
theorem BoxIn.ne {H0 H : Hp} {p a : Addr} {n : Nat} (b : BoxIn H0 H p n) (h : H a = none) : a ≠ p := by
  obtain ⟨_, _, _, hp, _⟩ := b.box
  exact (ne_of_none hp h).symm
/-- a new row: its tuple at t holds the key and a value that stands somewhere else -/
theorem rowIn.new {K : PySem.W.Frag} {H : Hp} {p l t : Addr} {k : Key} {v : V} {d : PyData} (tp : t ≠ p) (tl : t ≠ l) (ht : H t = none) (hv : VD K (but (but H p) l) v (some d)) (hk : keyOk k) : rowIn K (upd H t (.tup [kV k, v])) p l (t, k, v, d) :=
  ⟨tp, tl, upd_same, hv.mono (but2_sx (.of (same_new ht))), hk⟩
theorem but2_at {H : Hp} {p l a : Addr} {o : HO} (h1 : a ≠ p) (h2 : a ≠ l) (h : H a = some o) : but (but H p) l a = some o := by
  rw [but_ne h2, but_ne h1]
  exact h
theorem BIn.ne {K : PySem.W.Frag} {H0 H : Hp} {p l t : Addr} {ps : List PRow} (M : BIn K H0 H p l ps) (ht : H t = none) : t ≠ l := (ne_of_none M.lst ht).symm
def goodI (ps : List PRow) (i : Nat) : Bool := match ps[i]? with
  | some r => spanO (some r.2.2.2)
  | none => false
theorem ixN_c {n i : Nat} (h : i < n) : ixN n (i : Int) = some i := by
  unfold ixN
  rw [if_pos (by omega), if_pos (by omega)]
  rfl
/-- (limit or 0) is an int -/
theorem or_lim {K : PySem.W.Frag} {i : Nat} {o : Option Int} {σ : List (Option V)} {H : Hp} {Q : VK} (h : σ[i]? = some (some (limV o))) (k : ∀ j : Int, Q (.int j) H) : tOrT K (tVar i) (tC (.int 0)) σ H Q := by
  refine ⟨limV o, h, ?_⟩
  cases o with
  | none => exact ⟨false, rfl, iteF (k 0)⟩
  | some j =>
    refine ⟨j != 0, rfl, ?_⟩
    by_cases e : (j != 0) = true
    · rw [e]
      exact iteT (k j)
    · rw [Bool.not_eq_true] at e
      rw [e]
      exact iteF (k 0)
theorem BIn.app {K : PySem.W.Frag} {H0 H : Hp} {p l : Addr} {ps : List PRow} {r : PRow} {i : Nat} (M : BIn K H0 H p l ps) (h : rowIn K H p l r) : BIn K H0 (upd H l (.lst ((ps.map fun r => V.ref r.1).take i ++ [V.ref r.1] ++ (ps.map fun r => V.ref r.1).drop i))) p l (ps.take i ++ [r] ++ ps.drop i) := by
  have := M.put (ps' := ps.take i ++ [r] ++ ps.drop i) fun x hx => by
    rcases List.mem_append.mp hx with hx | hx
    · rcases List.mem_append.mp hx with hx | hx
      · exact M.rows x (List.mem_of_mem_take hx)
      · rw [List.mem_singleton.mp hx]
        exact h
    · exact M.rows x (List.mem_of_mem_drop hx)
  rw [List.map_append, List.map_append, List.map_take, List.map_drop] at this
  exact this
theorem len_ins {α : Type} (ps : List α) (r : α) (i : Nat) : (ps.take i ++ [r] ++ ps.drop i).length = ps.length + 1 := by
  rw [List.append_assoc, List.length_append, List.length_append, List.length_take, List.length_drop, List.length_singleton]
  omega
theorem rowIn.sv {K : PySem.W.Frag} {H : Hp} {p l t : Addr} {k : Key} {v : V} {d : PyData} (tp : t ≠ p) (tl : t ≠ l) (ht : H t = none) (hv : VD K (but (but H p) l) v (some d)) (hk : keyOk k) : rowIn K (upd H t (.tup [kV k, v])) p l (t, k, v, d) := rowIn.new tp tl ht hv hk
def sp_lawT (K : PySem.W.Frag) (P : Addr) : Sp := fun vs H Q _ => ∃ (a : Addr) (ns : List Int), vs = [.ref a] ∧ SqL K H a (ns.map V.int) ∧ ns.length ≤ 63 ∧ LamX.TabS H P lamQ ∧ ∀ H', Q (.bl true) H'
def rTupOfN (K : PySem.W.Frag) : List V → Hp → VK → Prop := fun xs H Q => ∃ p ys, xs = [V.ref p] ∧ ((SqL K H p ys ∧ ∀ (l : Addr), H l = none → Q (V.ref l) (upd H l (HO.tup ys))) ∨ SqT K H p ys ∧ Q (V.ref p) H)
/-! ### the entries of dict(pairs) -/
def putE (es : List Ent) (e : Ent) : List Ent := if (es.any fun x => decide (x.1 = e.1)) = true then es.map (fun x => if x.1 = e.1 then (x.1, e.2) else x) else es ++ [e]
theorem putE_kv (es : List Ent) (e : Ent) : (putE es e).map kvE = putK (es.map kvE) e.1 e.2.1 := by
  unfold putE putK
  have ha : ((es.map kvE).any fun kv => decide (kv.1 = e.1)) = es.any fun x => decide (x.1 = e.1) := by
    rw [List.any_map]
    rfl
  rw [ha]
  split
  · rw [List.map_map, List.map_map]
    refine List.map_congr_left fun x _ => ?_
    show kvE (if x.1 = e.1 then (x.1, e.2) else x) = if x.1 = e.1 then (x.1, e.2.1) else kvE x
    split <;> rfl
  · rw [List.map_append]
    rfl
theorem putE_mem {es : List Ent} {e x : Ent} (h : x ∈ putE es e) : x ∈ es ∨ (x.2 = e.2 ∧ (x.1 = e.1)) := by
  unfold putE at h
  split at h
  · obtain ⟨y, hy, rfl⟩ := List.mem_map.mp h
    by_cases q : y.1 = e.1
    · rw [if_pos q]
      exact .inr ⟨rfl, q⟩
    · rw [if_neg q]
      exact .inl hy
  · rcases List.mem_append.mp h with h | h
    · exact .inl h
    · rw [List.mem_singleton.mp h]
      exact .inr ⟨rfl, rfl⟩
theorem putE_len (es : List Ent) (e : Ent) : (putE es e).length ≤ es.length + 1 := by
  unfold putE
  split
  · rw [List.length_map]
    exact Nat.le_succ _
  · rw [List.length_append]
    exact Nat.le_refl _
theorem putE_nod {es : List Ent} {e : Ent} (h : nodK es) : nodK (putE es e) := by
  unfold putE nodK
  split
  · have : (es.map fun x => if x.1 = e.1 then (x.1, e.2) else x).map (·.1) = es.map (·.1) := by
      rw [List.map_map]
      refine List.map_congr_left fun x _ => ?_
      show (if x.1 = e.1 then (x.1, e.2) else x).1 = x.1
      split <;> rfl
    rw [this]
    exact h
  · rename_i n
    rw [List.map_append]
    refine List.nodup_append.mpr ⟨h, List.nodup_cons.mpr ⟨List.not_mem_nil, List.nodup_nil⟩, fun a ha b hb => ?_⟩
    have hb : b = e.1 := List.mem_singleton.mp hb
    obtain ⟨x, hx, rfl⟩ := List.mem_map.mp ha
    intro z
    exact n (List.any_eq_true.mpr ⟨x, hx, decide_eq_true (z.trans hb)⟩)
theorem merge_ents : ∀ (ls es : List Ent), nodK es → ∃ es', mergeK (es.map kvE) (ls.map kvE) = es'.map kvE ∧ nodK es' ∧ es'.length ≤ es.length + ls.length ∧ ∀ x ∈ es', x ∈ es ∨ ∃ y ∈ ls, x.2 = y.2 ∧ x.1 = y.1
  | [], es, h => ⟨es, rfl, h, Nat.le_refl _, fun x hx => .inl hx⟩
  | e :: ls, es, h => by
    obtain ⟨es', h1, h2, h3, h4⟩ := merge_ents ls (putE es e) (putE_nod h)
    refine ⟨es', ?_, h2, ?_, fun x hx => ?_⟩
    · rw [← h1, putE_kv]
      rfl
    · have := putE_len es e
      rw [List.length_cons]
      omega
    · rcases h4 x hx with z | ⟨y, hy, z⟩
      · rcases putE_mem z with z | z
        · exact .inl z
        · exact .inr ⟨e, List.mem_cons_self, z⟩
      · exact .inr ⟨y, List.mem_cons_of_mem _ hy, z⟩
theorem merge_all {K : PySem.W.Frag} {H : Hp} (ls : List Ent) (h : EV K H ls) : ∃ es, mergeK [] (ls.map kvE) = es.map kvE ∧ nodK es ∧ es.length ≤ ls.length ∧ EV K H es := by
  obtain ⟨es, h1, h2, h3, h4⟩ := merge_ents ls [] List.nodup_nil
  refine ⟨es, h1, h2, by simpa using h3, fun x hx => ?_⟩
  rcases h4 x hx with z | ⟨y, hy, e2, e1⟩
  · exact (List.not_mem_nil z).elim
  · rw [e2, e1]
    exact h y hy
theorem key_sure (k : Key) : sureV (kV k) = true := by
  cases k <;> rfl
theorem VD.sure {K : PySem.W.Frag} {H : Hp} {v : V} {o : Option PyData} (h : VD K H v o) : sureV v = true := by
  cases h with
  | dat a _ _ => cases a <;> rfl
  | dic _ => rfl
theorem restR_sure {ns : List Str} {rv : V} {ro : Option PyData} {n : Nat} {w : V} (hv : sureV rv = true) (h : restR ns rv ro = some (n, w)) : sureV w = true := by
  unfold restR at h
  split at h
  · split at h
    · cases h
      rfl
    · cases h
  · split at h
    · cases h
      exact hv
    · split at h
      · cases h
        exact hv
      · split at h
        · cases h
          rfl
        · cases h
theorem catF_sure {K : PySem.W.Frag} {H : Hp} {es : List Ent} {rv : V} {ro : Option PyData} {n : Nat} {w : V} (he : EV K H es) (hv : sureV rv = true) (h : catF es rv ro = some (n, w)) : sureV w = true := by
  unfold catF at h
  split at h
  · rename_i q e
    cases h
    unfold rsF at e
    split at e
    · cases e
      exact key_sure _
    · split at e
      · cases e
        unfold valAt
        cases z : lookE es _ with
        | none => rfl
        | some x => exact (he _ (lookE_mem z).1).1.sure
      · cases e
  · unfold catR at h
    split at h
    · cases h
      rfl
    · exact restR_sure hv h
theorem catR_nil : catR [] .non (some .none) = none := by
  unfold catR
  have h : ovl [] = none := by
    unfold ovl sortR srtS
    rw [List.map_nil, List.mergeSort_nil]
    rfl
  rw [h]
  rfl
theorem catF_nil : catF [] .non (some .none) = none := by
  rw [catF_go rsF_nil]
  exact catR_nil
theorem nmsC_nil : nmsC [] none = [] := by
  unfold nmsC srtS
  exact List.mergeSort_nil
theorem ceq_nil : ceqB [] [] none none = true := by
  unfold ceqB sortD sortR srtS
  rw [List.map_nil, List.mergeSort_nil]
  rfl
theorem rows_from {α : Type} {f : α → V} {W : List α} : ∀ {xs : List V}, (∀ y ∈ xs, ∃ r, r ∈ W ∧ y = f r) → ∃ rs : List α, xs = rs.map f ∧ ∀ r ∈ rs, r ∈ W
  | [], _ => ⟨[], rfl, fun s h => (List.not_mem_nil h).elim⟩
  | x :: r, h => by
    obtain ⟨s, hs, rfl⟩ := h x List.mem_cons_self
    obtain ⟨rs, h1, h2⟩ := rows_from (xs := r) fun y hy => h y (List.mem_cons_of_mem _ hy)
    refine ⟨s :: rs, by rw [h1]; rfl, fun z hz => ?_⟩
    rcases List.mem_cons.mp hz with rfl | hz
    · exact hs
    · exact h2 z hz
theorem EX.seq {H H' : Hp} {d : Addr} {kvs : List (Key × V)} (s : EX [d] H H') (hd : H d = some (.dK kvs)) : ND H H' := s.nd fun x hx o e => by
  rw [List.mem_singleton.mp hx, hd] at e
  cases e
  rfl
/-- the drawing box by itself -/
theorem BoxAt.in_ {H : Hp} {p : Addr} {n : Nat} (b : BoxAt H p n) : BoxIn (but H p) H p n := ⟨but_leC _ _, but_same, b⟩
theorem BoxAt.nd {H H' : Hp} {p : Addr} {n : Nat} (s : ND H H') (b : BoxAt H p n) : BoxAt H' p n := by
  obtain ⟨d, s', c, h1, h⟩ := b
  exact ⟨d, s', c, s _ _ h1 rfl, h⟩
theorem CatNew.ex {K : PySem.W.Frag} {C : Addr} {H0 H H' : Hp} {x y : Addr} {rs : List Row} {rt : Option Str} (hy : H y = none) (s : EX [y] H H') (h : CatNew K C H0 H x rs rt) : CatAt K C H' x rs rt := by
  obtain ⟨dx, d, l, p, xs, h1, h2, h3, h4, h5, _⟩ := h
  have k : ∀ {b : Addr} {o : HO}, H b = some o → (∀ ps, o ≠ .tbl ps) → H' b = some o := fun e t => s _ _ (by simpa using ne_of_none e hy) e t
  have nd : ND H H' := fun b o e z => k e fun ps w => by
    rw [w] at z
    cases z
  refine ⟨dx, d, l, p, xs, k h1 (fun ps z => by cases z), k h2 (fun ps z => by cases z), k h3 (fun ps z => by cases z), h4.nd nd, h5.nd nd⟩
theorem PairsAt.mono {K : PySem.W.Frag} {H H' : Hp} {q : Addr} {ps : List PRow} (s : Same H H') (h : PairsAt K H q ps) : PairsAt K H' q ps := ⟨s _ _ h.lst, fun r hr => s _ _ (h.rows r hr), h.ev.mono s⟩
theorem pairs_paired {K : PySem.W.Frag} {H : Hp} : ∀ {ps : List PRow}, (∀ r ∈ ps, H r.1 = some (.tup [kV r.2.1, r.2.2.1])) → PySem.Paired (fun (p : Addr) (kv : Key × V) => SqT K H p [kV kv.1, kv.2]) (ps.map (·.1)) ((ps.map (·.2)).map kvE)
  | [], _ => .nil
  | r :: t, h => .cons (SqT.of (h r List.mem_cons_self)) (pairs_paired fun x hx => h x (List.mem_cons_of_mem _ hx))
theorem vd_rt {K : PySem.W.Frag} {H : Hp} {rt : Option Str} (h : ∀ s, rt = some s → nameS s = true) : ∃ rd, VD K H (rvO rt) (some rd) := by
  cases rt with
  | none => exact ⟨_, .dat .non (by decide) fun s e => by cases e⟩
  | some s => exact ⟨_, vd_key (k := .inr s) ⟨by have := nameC_len (h s rfl); omega, nameC_ok (h s rfl)⟩⟩
/-- what is told of a catalog's making stands at p -/
def TDAt (H : Hp) (r : Option (Nat × V)) (ns : List Str) (p : Addr) : Prop := match r with
  | some (n, w) => H p = some (.lst [.str (wC n), w])
  | none => ∃ l, H p = some (.lst [.str "made", .ref l]) ∧ H l = some (.lst (ns.map V.str))
theorem TDAt.nd {H H' : Hp} {r : Option (Nat × V)} {ns : List Str} {p : Addr} (s : ND H H') (h : TDAt H r ns p) : TDAt H' r ns p := by
  unfold TDAt at h ⊢
  split at h
  · exact s _ _ h rfl
  · obtain ⟨l, h1, h2⟩ := h
    exact ⟨l, s _ _ h1 rfl, s _ _ h2 rfl⟩
theorem due_both {H : Hp} {es : List Ent} {rv : V} {ro : Option PyData} {Pr : Hp → Addr → Prop} (k : ∀ H' p, Same H H' → TDAt H' (catF es rv ro) (srtS (nmsE es ++ (rtO ro).toList)) p → Pr H' p) :
    (∀ n w, catF es rv ro = some (n, w) → ∀ H' p, Same H H' → H p = none → H' p = some (.lst [.str (wC n), w]) → Pr H' p) ∧
    (catF es rv ro = none → ∀ H' p l, Same H H' → H p = none → H' p = some (.lst [.str "made", .ref l]) → H' l = some (.lst ((srtS (nmsE es ++ (rtO ro).toList)).map V.str)) → Pr H' p) :=
  ⟨fun n w e H' p s _ hp => k H' p s (by rw [e]; exact hp), fun e H' p l s _ hp hl => k H' p s (by rw [e]; exact ⟨l, hp, hl⟩)⟩
theorem told_both {P : Addr} {H : Hp} {v rv : V} {ro : Option PyData} {o : Option (Addr × List Ent)} {Pr : Hp → Addr → Prop} (k : ∀ H' p, EX (spX o) H H' → LamX.TabS H' P lamQ → TDAt H' (caR v rv ro (some o)) (nmsC (caRows (some o)) (rtO ro)) p → Pr H' p) :
    (∀ n w, caR v rv ro (some o) = some (n, w) → ∀ H' p, EX (spX o) H H' → LamX.TabS H' P lamQ → H' p = some (.lst [.str (wC n), w]) → Pr H' p) ∧
    (caR v rv ro (some o) = none → ∀ H' p l, EX (spX o) H H' → LamX.TabS H' P lamQ → H' p = some (.lst [.str "made", .ref l]) → H' l = some (.lst ((nmsC (caRows (some o)) (rtO ro)).map V.str)) → Pr H' p) :=
  ⟨fun n w e H' p s t hp => k H' p s t (by rw [e]; exact hp), fun e H' p l s t hp hl => k H' p s t (by rw [e]; exact ⟨l, hp, hl⟩)⟩
theorem td_same {K : PySem.W.Frag} {H H0 : Hp} {es : List Ent} {rv : V} {rd : PyData} {p q : Addr} {Q : VK} (he : EV K H0 es) (nd : nodK es) (hv : VD K H0 rv (some rd))
    (h1 : TDAt H (catF es rv (some rd)) (srtS (nmsE es ++ (rtO (some rd)).toList)) p) (h2 : TDAt H (catF es rv (some rd)) (srtS (nmsE es ++ (rtO (some rd)).toList)) q) (k : Q (.bl false) H) : rNe2 K (.ref p) (.ref q) H Q := by
  unfold TDAt at h1 h2
  cases e : catF es rv (some rd) with
  | some r =>
    obtain ⟨n, w⟩ := r
    rw [e] at h1 h2
    refine .inl ⟨p, q, _, rfl, rfl, SqL.of h1, SqL.of h2, ?_, k⟩
    have := catF_sure he hv.sure e
    simp only [List.all_cons, List.all_nil, this, Bool.and_true]
    rfl
  | none =>
    rw [e] at h1 h2
    obtain ⟨l1, a1, a2⟩ := h1
    obtain ⟨l2, b1, b2⟩ := h2
    have hg := caR_good (d := p) (v := .non) e
    have hnm : ∀ s ∈ srtS (nmsE es ++ (rtO (some rd)).toList), nameS s = true := fun s hs => by
      rcases List.mem_append.mp (srt_mem.mp hs) with z | z
      · obtain ⟨x, hx, rfl⟩ := List.mem_map.mp z
        have g := rsF_good nd hg.1 x hx
        unfold goodE at g
        rw [Bool.and_eq_true] at g
        obtain ⟨k, v, d⟩ := x
        cases k with
        | inl i => cases g.1
        | inr s => exact g.1
      · have z : rtO (some rd) = some s := by
          cases e : rtO (some rd) with
          | none => rw [e] at z; cases z
          | some s' =>
            rw [e] at z
            rw [List.mem_singleton.mp z]
        exact ((catR_rest hv hg.2).2 s z).1
    have hsh := strsC_sh hnm
    have hsh2 : SeqAt.shaped (.list [.str "made", .list ((srtS (nmsE es ++ (rtO (some rd)).toList)).map PyData.str)]) = true := by
      obtain ⟨c1, c2⟩ := shaped_iff.mp hsh
      refine shaped_list (n := 1) (by decide) fun d hd => ?_
      simp only [List.mem_cons, List.not_mem_nil, or_false] at hd
      rcases hd with rfl | rfl
      · refine ⟨?_, by simp [PyData.depth]⟩
        simp only [PyData.canLay0]
        decide +kernel
      · refine ⟨c1, ?_⟩
        simp only [PyData.depth]
        have : PyData.depthAll ((srtS (nmsE es ++ (rtO (some rd)).toList)).map PyData.str) ≤ 0 := depthAll_le fun d hd => by
          obtain ⟨s, _, rfl⟩ := List.mem_map.mp hd
          simp [PyData.depth]
        omega
    refine .inr ⟨_, _, .lst (SqL.of a1) (.cons (.str _) (.cons (.lst (SqL.of a2) (dpAll_strs _)) .nil)), .lst (SqL.of b1) (.cons (.str _) (.cons (.lst (SqL.of b2) (dpAll_strs _)) .nil)), hsh2, hsh2, ?_⟩
    rw [SeqAt.eqv_refl _ (shaped_iff.mp hsh2).1]
    exact k
theorem nms_rowsE (es : List Ent) : (rowsE es).map (·.1) = nmsE es := by
  unfold rowsE nmsE
  rw [List.map_map]
  rfl
theorem EX.nil0 {H H' : Hp} (s : EX [] H H') : ND H H' := s.nd fun x hx => (List.not_mem_nil hx).elim
/-- odd values that are no dict -/
def oddV (K : PySem.W.Frag) (H : Hp) (v : V) : Prop := ∃ d, VD K H v (some d) ∧ isT "dict" (some d) = false ∧ decide (v = .non) = false ∧ SeqAt.shaped (.list [.str "spans", d]) = true
theorem oddV.mono {K : PySem.W.Frag} {H H' : Hp} {v : V} (s : Same H H') (h : oddV K H v) : oddV K H' v := by
  obtain ⟨d, h1, h2⟩ := h
  exact ⟨d, h1.mono s, h2⟩
theorem but_ofC {H H' : Hp} {p : Addr} (s : Same H H') : Same (but H p) (but H' p) := fun b o e => by
  by_cases z : b = p
  · rw [z, but_same] at e
    cases e
  · rw [but_ne z] at e ⊢
    exact s _ _ e
theorem nd_but {H H' : Hp} {p : Addr} (s : ND H H') : ND (but H p) (but H' p) := fun b o e q => by
  by_cases z : b = p
  · rw [z, but_same] at e
    cases e
  · rw [but_ne z] at e ⊢
    exact s _ _ e q
theorem BoxAt.tabS {H : Hp} {p P : Addr} {n : Nat} {q : Str} (b : BoxAt H p n) (h : LamX.TabS H P q) : LamX.TabS (but H p) P q := by
  obtain ⟨d, s, c, h1, _⟩ := b
  refine tabS_sx (xs := [p]) h (fun x o n e => by rw [but_ne (by simpa using n)]; exact e) fun x hx o e => ?_
  rw [List.mem_singleton.mp hx, h1] at e
  cases e
  exact ⟨_, rfl⟩
/-! ### the stretches, read off the rows in the order of their spans -/
def tlG (rv : V) : Option Int → List Row → List StR
  | none, [] => []
  | some e, [] => [(some e, none, rv)]
  | e, r :: t => (if (!decide (limV r.2.2.1 = limV e)) = true then [(e, r.2.2.1, rv)] else []) ++ ((r.2.2.1, r.2.2.2, V.str r.1) :: tlG rv r.2.2.2 t)
theorem tlG_cons (rv : V) (e : Option Int) (r : Row) (t : List Row) : tlG rv e (r :: t) = (if (!decide (limV r.2.2.1 = limV e)) = true then [(e, r.2.2.1, rv)] else []) ++ ((r.2.2.1, r.2.2.2, V.str r.1) :: tlG rv r.2.2.2 t) := by
  cases e <;> rfl
theorem tlG_eq (rv : V) : ∀ (l : List Row) (e : Option Int), tlG rv e l = strG rv e l ++ (if (!decide (limV (endG e l) = V.non)) = true then [(endG e l, none, rv)] else [])
  | [], none => rfl
  | [], some e => rfl
  | r :: t, e => by
    rw [tlG_cons, tlG_eq rv t]
    show _ = (_ ++ (_ :: strG rv r.2.2.2 t)) ++ _
    rw [List.append_assoc, List.cons_append]
    rfl
theorem strT_nil (rv : V) : strT rv [] = [(none, none, rv)] := rfl
theorem strT_cons (rv : V) (r : Row) (t : List Row) : strT rv (r :: t) = tlG rv none (r :: t) := by
  rw [tlG_eq]
  unfold strT
  have h : (strG rv none (r :: t)).isEmpty = false := by
    unfold strG
    split <;> rfl
  rw [h, if_neg (by decide)]
  split
  · rfl
  · rw [List.append_nil]
theorem limV_inj {a b : Option Int} (h : limV a = limV b) : a = b := by
  cases a <;> cases b <;> simp [limV] at h <;> simp [h]
/-- stretches one behind the other from lo to the end, pm at each key -/
inductive TileL (pm : Int → V) : Option Int → Option V → List StR → Prop
  | last {lo : Option Int} {pw : Option V} {w : V} : (∀ k, loB lo k = true → pm k = w) → pw ≠ some w → TileL pm lo pw [(lo, none, w)]
  | cons {lo : Option Int} {pw : Option V} {h : Int} {w : V} {rest : List StR} : (∀ l, lo = some l → l < h) → (∀ k, loB lo k = true → k < h → pm k = w) → pw ≠ some w → TileL pm (some h) (some w) rest → TileL pm lo pw ((lo, some h, w) :: rest)
theorem TileL.head {pm : Int → V} {lo : Option Int} {pw : Option V} {l : List StR} (h : TileL pm lo pw l) : ∃ st t, l = st :: t ∧ st.1 = lo ∧ pw ≠ some st.2.2 ∧ (∀ k, loB lo k = true → hiB st.2.1 k = true → pm k = st.2.2) := by
  cases h with
  | last a b => exact ⟨_, _, rfl, rfl, b, fun k h1 _ => a k h1⟩
  | cons a b c d => exact ⟨_, _, rfl, rfl, c, fun k h1 h2 => b k h1 (of_decide_eq_true h2)⟩
theorem TileL.end_ {pm : Int → V} {lo : Option Int} {pw : Option V} {l : List StR} (h : TileL pm lo pw l) : ∃ pre st, l = pre ++ [st] ∧ st.2.1 = none := by
  induction h with
  | last a b => exact ⟨[], _, rfl, rfl⟩
  | cons a b c d ih =>
    obtain ⟨pre, st, e, z⟩ := ih
    exact ⟨_ :: pre, st, by rw [e]; rfl, z⟩
/-- what the law asks of a stretch -/
structure StGood (pm : Int → V) (sts : List StR) (j : Nat) (st : StR) : Prop where
  ok : okS (st.1, st.2.1) = true
  key : ∀ k, inS (st.1, st.2.1) k = true → pm k = st.2.2
  prev : 0 < j → ∃ q h, sts[j - 1]? = some q ∧ st.1 = some h ∧ q.2.1 = some h ∧ q.2.2 ≠ st.2.2
theorem TileL.good {pm : Int → V} {lo : Option Int} {pw : Option V} {l : List StR} (h : TileL pm lo pw l) : ∀ j st, l[j]? = some st → StGood pm l j st := by
  induction h with
  | @last lo pw w a b =>
    intro j st e
    cases j with
    | zero =>
      cases e
      exact ⟨by cases lo <;> rfl, fun k hk => a k (Bool.and_eq_true_iff.mp hk).1, fun z => absurd z (Nat.lt_irrefl _)⟩
    | succ j => simp at e
  | @cons lo pw h w rest a b c d ih =>
    intro j st e
    cases j with
    | zero =>
      cases e
      refine ⟨?_, fun k hk => ?_, fun z => absurd z (Nat.lt_irrefl _)⟩
      · cases lo with
        | none => rfl
        | some l => exact decide_eq_true (a l rfl)
      · obtain ⟨h1, h2⟩ := Bool.and_eq_true_iff.mp hk
        exact b k h1 (of_decide_eq_true h2)
    | succ j =>
      have e : rest[j]? = some st := by simpa using e
      obtain ⟨g1, g2, g3⟩ := ih j st e
      refine ⟨g1, g2, fun _ => ?_⟩
      cases j with
      | zero =>
        obtain ⟨st', t, e1, e2, e3, _⟩ := d.head
        rw [e1] at e
        cases e
        exact ⟨(lo, some h, w), h, rfl, e2, rfl, fun z => e3 (by rw [← z])⟩
      | succ i =>
        obtain ⟨q, h', e1, e2⟩ := g3 (Nat.succ_pos _)
        exact ⟨q, h', by simpa using e1, e2⟩
/-- the first stretch that ends behind k holds what stands at k -/
theorem TileL.find {pm : Int → V} {lo : Option Int} {pw : Option V} {l : List StR} (h : TileL pm lo pw l) : ∀ k, loB lo k = true → ∃ st, l.find? (fun st => hiB st.2.1 k) = some st ∧ st.2.2 = pm k := by
  induction h with
  | last a b => exact fun k hk => ⟨_, rfl, (a k hk).symm⟩
  | @cons lo pw h w rest a b c d ih =>
    intro k hk
    rw [List.find?_cons]
    cases e : hiB (some h) k with
    | true => exact ⟨_, rfl, (b k hk (of_decide_eq_true e)).symm⟩
    | false =>
      refine ih k (decide_eq_true ?_)
      have := of_decide_eq_false e
      omega
/-- where one stretch ends and the next begins -/
def bdsL (l : List StR) : List Int := l.filterMap fun st => st.2.1
theorem TileL.len {pm : Int → V} {lo : Option Int} {pw : Option V} {l : List StR} (h : TileL pm lo pw l) : l.length = 1 + (bdsL l).length ∧ ∀ b ∈ bdsL l, pm (b - 1) ≠ pm b := by
  induction h with
  | last a b => exact ⟨rfl, fun b hb => (List.not_mem_nil hb).elim⟩
  | @cons lo pw h w rest a b c d ih =>
    have e : bdsL ((lo, some h, w) :: rest) = h :: bdsL rest := rfl
    refine ⟨by rw [e, List.length_cons, List.length_cons, ih.1]; omega, fun z hz => ?_⟩
    rw [e] at hz
    rcases List.mem_cons.mp hz with rfl | hz
    · obtain ⟨st, t, e1, e2, e3, e4⟩ := d.head
      have h1 : pm (z - 1) = w := b (z - 1) (by
        cases lo with
        | none => rfl
        | some l =>
          have := a l rfl
          exact decide_eq_true (by omega)) (by omega)
      have h2 : pm z = st.2.2 := by
        refine e4 z (decide_eq_true (Int.le_refl _)) ?_
        have g := (d.good 0 st (by rw [e1]; rfl)).ok
        rw [e2] at g
        cases q : st.2.1 with
        | none => rfl
        | some u =>
          rw [q] at g
          exact g
      rw [h1, h2]
      intro q
      exact e3 (by rw [q])
    · exact ih.2 z hz
/-- what stands at a key by the rows -/
def partR (rs : List Row) (rv : V) (k : Int) : V := match rs.find? fun r => inS r.2.2 k with
  | some r => .str r.1
  | none => rv
theorem partR_none {rs : List Row} {rv : V} {k : Int} (h : ∀ r ∈ rs, inS r.2.2 k = false) : partR rs rv k = rv := by
  unfold partR
  rw [List.find?_eq_none.mpr fun r hr => by rw [h r hr]; exact Bool.false_ne_true]
theorem partR_at {pre t : List Row} {r : Row} {rv : V} {k : Int} (h : ∀ r ∈ pre, inS r.2.2 k = false) (hr : inS r.2.2 k = true) : partR (pre ++ r :: t) rv k = .str r.1 := by
  unfold partR
  rw [List.find?_append, List.find?_eq_none.mpr fun r hr => by rw [h r hr]; exact Bool.false_ne_true, Option.none_or, List.find?_cons, hr]
def chainR (rs : List Row) : Prop := Chain (rs.map (·.2.2))
theorem chainR_cons {r : Row} {t : List Row} (h : chainR (r :: t)) : (∀ x ∈ t, ∃ a b, r.2.2.2 = some a ∧ x.2.2.1 = some b ∧ a ≤ b) ∧ chainR t := by
  obtain ⟨h1, h2⟩ := List.pairwise_cons.mp (show List.Pairwise _ (r.2.2 :: t.map (·.2.2)) from h)
  exact ⟨fun x hx => h1 x.2.2 (List.mem_map.mpr ⟨x, hx, rfl⟩), h2⟩
theorem inS_hi {s : Span} {h k : Int} (e : s.2 = some h) (g : h ≤ k) : inS s k = false := by
  unfold inS hiB
  rw [e]
  have : decide (k < h) = false := decide_eq_false (by omega)
  show (loB s.1 k && decide (k < h)) = false
  rw [this, Bool.and_false]
theorem inS_lo {s : Span} {l k : Int} (e : s.1 = some l) (g : k < l) : inS s k = false := by
  unfold inS loB
  rw [e]
  have : decide (l ≤ k) = false := decide_eq_false (by omega)
  show (decide (l ≤ k) && hiB s.2 k) = false
  rw [this, Bool.false_and]
/-- behind the rows pre, that all end at e at the latest -/
theorem tile_tl {rows : List Row} {rv : V} (hrv : ∀ r ∈ rows, rv ≠ V.str r.1) (hnd : (rows.map (·.1)).Nodup) (hok : ∀ r ∈ rows, okS r.2.2 = true) : ∀ (suf pre : List Row) (e : Option Int) (pw : Option V), rows = pre ++ suf → chainR suf → (e = none → pre = []) → (∀ e0, e = some e0 → ∀ r ∈ pre, ∃ h, r.2.2.2 = some h ∧ h ≤ e0) → (∀ e0, e = some e0 → ∀ r ∈ suf, ∃ l, r.2.2.1 = some l ∧ e0 ≤ l) → pw ≠ some rv → (∀ r ∈ suf, pw ≠ some (V.str r.1)) → (e = none → suf ≠ []) → TileL (partR rows rv) e pw (tlG rv e suf)
  | [], pre, e, pw, hr, _, _, h2, _, hp, _, hne => by
    cases e with
    | none => exact absurd rfl (hne rfl)
    | some e0 =>
      refine .last (fun k hk => partR_none fun r hr' => ?_) hp
      rw [hr, List.append_nil] at hr'
      obtain ⟨h, e1, e2⟩ := h2 e0 rfl r hr'
      have hk : e0 ≤ k := of_decide_eq_true hk
      exact inS_hi e1 (by omega)
  | r :: t, pre, e, pw, hr, hc, h1, h2, h3, hp, hq, _ => by
    rw [tlG_cons]
    obtain ⟨hc1, hc2⟩ := chainR_cons hc
    have hmem : r ∈ rows := by rw [hr]; exact List.mem_append_right _ List.mem_cons_self
    have okr := hok r hmem
    have preN : ∀ k, loB e k = true → ∀ x ∈ pre, inS x.2.2 k = false := fun k hk x hx => by
      cases e with
      | none => rw [h1 rfl] at hx; exact (List.not_mem_nil hx).elim
      | some e0 =>
        obtain ⟨h, e1, e2⟩ := h2 e0 rfl x hx
        have hk : e0 ≤ k := of_decide_eq_true hk
        exact inS_hi e1 (by omega)
    have tN : ∀ x ∈ t, V.str r.1 ≠ V.str x.1 := fun x hx z => by
      rw [hr, List.map_append, List.map_cons] at hnd
      have := (List.nodup_cons.mp (List.nodup_append.mp hnd).2.1).1
      exact this (by rw [V.str.inj z]; exact List.mem_map.mpr ⟨x, hx, rfl⟩)
    -- the row itself
    have row : ∀ (e' : Option Int) (pw' : Option V), e' = r.2.2.1 → (∀ k, loB e' k = true → ∀ x ∈ pre, inS x.2.2 k = false) → pw' ≠ some (V.str r.1) → TileL (partR rows rv) e' pw' ((e', r.2.2.2, V.str r.1) :: tlG rv r.2.2.2 t) := fun e' pw' he' hpre hpw => by
      cases hh : r.2.2.2 with
      | none =>
        have ht : t = [] := by
          cases t with
          | nil => rfl
          | cons x t' =>
            obtain ⟨a, b, z, _⟩ := hc1 x List.mem_cons_self
            rw [hh] at z
            cases z
        rw [ht]
        refine .last (fun k hk => ?_) hpw
        rw [hr]
        refine partR_at (hpre k hk) ?_
        unfold inS
        rw [hh, ← he', hk]
        rfl
      | some h =>
        refine .cons (fun l hl => ?_) (fun k hk hk2 => ?_) hpw ?_
        · have okr := okr
          rw [he'] at hl
          unfold okS at okr
          cases q : r.2.2 with
          | mk a b =>
            rw [q] at hl hh okr
            cases hl
            cases hh
            exact of_decide_eq_true okr
        · rw [hr]
          refine partR_at (hpre k hk) ?_
          unfold inS
          rw [hh, ← he', hk]
          exact decide_eq_true hk2
        · refine tile_tl hrv hnd hok t (pre ++ [r]) (some h) (some (V.str r.1)) (by rw [hr, List.append_assoc]; rfl) hc2 (fun z => by cases z) (fun e0 z x hx => ?_) (fun e0 z x hx => ?_) (fun z => hrv r hmem (Option.some.inj z).symm) (fun x hx z => tN x hx (Option.some.inj z)) (fun z => by cases z)
          · cases z
            rcases List.mem_append.mp hx with hx | hx
            · -- rows ahead end ahead of this one's end
              cases he : e with
              | none => rw [h1 he] at hx; exact (List.not_mem_nil hx).elim
              | some e1 =>
                obtain ⟨h', q1, q2⟩ := h2 e1 he x hx
                obtain ⟨l, q3, q4⟩ := h3 e1 he r List.mem_cons_self
                refine ⟨h', q1, ?_⟩
                have okr := okr
                cases q : r.2.2 with
                | mk a b =>
                  rw [q] at q3 hh okr
                  cases q3
                  cases hh
                  have := of_decide_eq_true okr
                  omega
            · rw [List.mem_singleton.mp hx]
              exact ⟨h, hh, Int.le_refl _⟩
          · cases z
            obtain ⟨a, b, q1, q2, q3⟩ := hc1 x hx
            rw [hh] at q1
            cases q1
            exact ⟨b, q2, q3⟩
    by_cases hg : (!decide (limV r.2.2.1 = limV e)) = true
    · rw [if_pos hg]
      have hne : r.2.2.1 ≠ e := fun z => by
        rw [z, decide_eq_true rfl] at hg
        cases hg
      cases hl : r.2.2.1 with
      | none =>
        cases e with
        | none => exact absurd hl hne
        | some e0 =>
          obtain ⟨l, q, _⟩ := h3 e0 rfl r List.mem_cons_self
          rw [hl] at q
          cases q
      | some l =>
        refine .cons (fun l' hl' => ?_) (fun k hk hk2 => partR_none fun x hx => ?_) hp ?_
        · obtain ⟨l2, q1, q2⟩ := h3 l' hl' r List.mem_cons_self
          rw [hl] at q1
          cases q1
          have : l ≠ l' := fun z => hne (by rw [hl, hl', z])
          omega
        · rw [hr] at hx
          rcases List.mem_append.mp hx with hx | hx
          · exact preN k hk x hx
          · rcases List.mem_cons.mp hx with rfl | hx
            · exact inS_lo hl hk2
            · obtain ⟨a, b, q1, q2, q3⟩ := hc1 x hx
              refine inS_lo q2 ?_
              have okr := okr
              cases q : r.2.2 with
              | mk c d =>
                rw [q] at hl q1 okr
                cases hl
                cases q1
                have := of_decide_eq_true okr
                omega
        · have := row (some l) (some rv) hl.symm (fun k hk x hx => ?_) (fun z => hrv r hmem (Option.some.inj z))
          · exact this
          · refine preN k ?_ x hx
            cases he : e with
            | none => rfl
            | some e0 =>
              obtain ⟨l2, q1, q2⟩ := h3 e0 he r List.mem_cons_self
              rw [hl] at q1
              cases q1
              have hk : l ≤ k := of_decide_eq_true hk
              exact decide_eq_true (by omega)
    · rw [if_neg hg]
      have he : r.2.2.1 = e := by
        have : decide (limV r.2.2.1 = limV e) = true := by simpa using hg
        exact limV_inj (of_decide_eq_true this)
      have := row e pw he.symm preN (hq r List.mem_cons_self)
      rw [← he] at this ⊢
      exact this
theorem tile_strT {rows : List Row} {rv : V} (hrv : ∀ r ∈ rows, rv ≠ V.str r.1) (hnd : (rows.map (·.1)).Nodup) (hok : ∀ r ∈ rows, okS r.2.2 = true) (hc : chainR rows) : TileL (partR rows rv) none none (strT rv rows) := by
  cases rows with
  | nil => exact .last (fun k _ => rfl) (fun z => by cases z)
  | cons r t =>
    rw [strT_cons]
    exact tile_tl hrv hnd hok (r :: t) [] none none rfl hc (fun _ => rfl) (fun e0 z => by cases z) (fun e0 z => by cases z) (fun z => by cases z) (fun _ _ z => by cases z) (fun _ z => by cases z)
/-! ### the order of the low limits -/
def lxO : Option Int → Int
  | none => 0
  | some _ => 1
def lyO : Option Int → Int
  | none => 0
  | some i => i
theorem lowD_ii (s : Span) : lowD s = .tuple [.int (lxO s.1), .int (lyO s.1)] := by
  unfold lowD
  cases s.1 <;> rfl
theorem dataLe_low (f : Str → Span) : PySem.W.dataLe false (fun y => lowD (f y)) = fun p q => decide (lxO (f p).1 < lxO (f q).1 ∨ (lxO (f p).1 = lxO (f q).1 ∧ lyO (f p).1 ≤ lyO (f q).1)) := by
  have : (fun y => lowD (f y)) = fun y => PyData.tuple [.int (lxO (f y).1), .int (lyO (f y).1)] := funext fun y => lowD_ii _
  rw [this, PySem.W.dataLe_ii]
theorem chainR_lt : ∀ {rows : List Row}, chainR rows → (∀ r ∈ rows, okS r.2.2 = true) → rows.Pairwise fun a b => lxO a.2.2.1 < lxO b.2.2.1 ∨ (lxO a.2.2.1 = lxO b.2.2.1 ∧ lyO a.2.2.1 < lyO b.2.2.1)
  | [], _, _ => .nil
  | r :: t, hc, hok => by
    obtain ⟨h1, h2⟩ := chainR_cons hc
    refine List.pairwise_cons.mpr ⟨fun x hx => ?_, chainR_lt h2 fun y hy => hok y (List.mem_cons_of_mem _ hy)⟩
    obtain ⟨a, b, q1, q2, q3⟩ := h1 x hx
    have ok := hok r List.mem_cons_self
    rw [q2]
    cases q : r.2.2 with
    | mk c d =>
      rw [q] at q1 ok
      cases q1
      cases c with
      | none => exact .inl (by show (0 : Int) < 1; omega)
      | some c =>
        have := of_decide_eq_true ok
        exact .inr ⟨rfl, by show c < b; omega⟩
/-- sorted by their low limits, the rows stand in the order of their spans -/
theorem ordR_of {rs rows : List Row} (hp : rs.Perm rows) (hnd : (rows.map (·.1)).Nodup) (hc : chainR rows) (hok : ∀ r ∈ rows, okS r.2.2 = true) : ordR rs = rows := by
  have hnd2 : (rs.map (·.1)).Nodup := (hp.map _).nodup_iff.mpr hnd
  have hself : ∀ r ∈ rows, rowOf rs r.1 = r := fun r hr => rowOf_self hnd2 r (hp.mem_iff.mpr hr)
  have hpw := chainR_lt hc hok
  have key : lowsS rs = rows.map (·.1) := by
    unfold lowsS
    rw [dataLe_low fun y => (rowOf rs y).2.2]
    have e1 : ((rs.map (·.1)).mergeSort fun p q => decide (lxO (rowOf rs p).2.2.1 < lxO (rowOf rs q).2.2.1 ∨ (lxO (rowOf rs p).2.2.1 = lxO (rowOf rs q).2.2.1 ∧ lyO (rowOf rs p).2.2.1 ≤ lyO (rowOf rs q).2.2.1))).Perm (rows.map (·.1)) := (List.mergeSort_perm _ _).trans (hp.map _)
    refine List.Perm.eq_of_pairwise (le := fun p q => decide (lxO (rowOf rs p).2.2.1 < lxO (rowOf rs q).2.2.1 ∨ (lxO (rowOf rs p).2.2.1 = lxO (rowOf rs q).2.2.1 ∧ lyO (rowOf rs p).2.2.1 ≤ lyO (rowOf rs q).2.2.1)) = true) (fun a b ha hb h1 h2 => ?_) (List.pairwise_mergeSort (fun a b c h k => ?_) (fun a b => ?_) _) ?_ e1
    · obtain ⟨ra, hra, rfl⟩ := List.mem_map.mp (e1.mem_iff.mp ha)
      obtain ⟨rb, hrb, rfl⟩ := List.mem_map.mp hb
      rw [hself ra hra, hself rb hrb] at h1 h2
      have h1 := of_decide_eq_true h1
      have h2 := of_decide_eq_true h2
      obtain ⟨i, hi, rfl⟩ := List.mem_iff_getElem.mp hra
      obtain ⟨j, hj, rfl⟩ := List.mem_iff_getElem.mp hrb
      rcases Nat.lt_trichotomy i j with z | rfl | z
      · have := List.pairwise_iff_getElem.mp hpw i j hi hj z
        omega
      · rfl
      · have := List.pairwise_iff_getElem.mp hpw j i hj hi z
        omega
    · have h := of_decide_eq_true h
      have k := of_decide_eq_true k
      exact decide_eq_true (by omega)
    · rw [Bool.or_eq_true, decide_eq_true_iff, decide_eq_true_iff]
      omega
    · rw [List.pairwise_map]
      refine hpw.imp_of_mem fun {a b} ha hb h => ?_
      rw [hself a ha, hself b hb]
      exact decide_eq_true (by omega)
  unfold ordR
  rw [key, List.map_map]
  refine (List.map_congr_left fun r hr => ?_).trans (List.map_id _)
  exact hself r hr
theorem sortR_perm {rs : List Row} (hnd : (rs.map (·.1)).Nodup) : (sortR rs).Perm rs := by
  unfold sortR
  refine ((List.mergeSort_perm _ _).map _).trans ?_
  rw [List.map_map]
  refine List.Perm.of_eq ((List.map_congr_left fun r hr => ?_).trans (List.map_id _))
  exact rowOf_self hnd r hr
/-! ### the limits, each once -/
def newL (L : List Int) (s : Span) : List Int := [s.1, s.2].filterMap fun o => match o with
  | some i => if i ∈ L then none else some i
  | none => none
def limsG : List Int → List Row → List Int
  | L, [] => L
  | L, r :: t => limsG (L ++ newL L r.2.2) t
theorem limsG_snoc (r : Row) : ∀ (l : List Row) (L : List Int), limsG L (l ++ [r]) = limsG L l ++ newL (limsG L l) r.2.2
  | [], L => rfl
  | x :: l, L => limsG_snoc r l (L ++ newL L x.2.2)
theorem bds_app (a b : List StR) : bdsL (a ++ b) = bdsL a ++ bdsL b := List.filterMap_append
def pL (L : List Int) : Option Int → List Int
  | some i => if i ∈ L then [] else [i]
  | none => []
theorem newL_eq (L : List Int) (a b : Option Int) : newL L (a, b) = pL L a ++ pL L b := by
  have h : ∀ (o : Option Int) (r : List (Option Int)), ((o :: r).filterMap fun o => match o with
    | some i => if i ∈ L then none else some i
    | none => none) = pL L o ++ (r.filterMap fun o => match o with
    | some i => if i ∈ L then none else some i
    | none => none) := fun o r => by
    cases o with
    | none => rfl
    | some i =>
      by_cases q : i ∈ L <;> simp [pL, q]
  unfold newL
  rw [h, h]
  show pL L a ++ (pL L b ++ []) = _
  rw [List.append_nil]
theorem bds_gap (rv : V) (e a b : Option Int) (w : V) : bdsL ((if (!decide (limV a = limV e)) = true then [(e, a, rv)] else []) ++ [(a, b, w)]) = (if (!decide (limV a = limV e)) = true then a.toList else []) ++ b.toList := by
  unfold bdsL
  rw [List.filterMap_append]
  congr 1
  · split
    · cases a <;> rfl
    · rfl
theorem limsG_tl {rv : V} : ∀ (suf : List Row) (L : List Int) (e : Option Int), chainR suf → (∀ r ∈ suf, okS r.2.2 = true) → (∀ x ∈ L, ∃ e0, e = some e0 ∧ x ≤ e0) → (∀ e0, e = some e0 → e0 ∈ L) → (∀ e0, e = some e0 → ∀ r ∈ suf, ∃ l, r.2.2.1 = some l ∧ e0 ≤ l) → limsG L suf = L ++ bdsL (tlG rv e suf)
  | [], L, e, _, _, _, _, _ => by
    cases e <;> exact (List.append_nil L).symm
  | r :: t, L, e, hc, hok, h1, h2, h3 => by
    obtain ⟨hc1, hc2⟩ := chainR_cons hc
    have okr := hok r List.mem_cons_self
    have h3r := fun e0 z => h3 e0 z r List.mem_cons_self
    have e1 : tlG rv e (r :: t) = ((if (!decide (limV r.2.2.1 = limV e)) = true then [(e, r.2.2.1, rv)] else []) ++ [(r.2.2.1, r.2.2.2, V.str r.1)]) ++ tlG rv r.2.2.2 t := by
      rw [tlG_cons, List.append_assoc]
      rfl
    have e2 : limsG L (r :: t) = limsG (L ++ newL L (r.2.2.1, r.2.2.2)) t := rfl
    rw [e1, e2, bds_app, bds_gap, newL_eq]
    cases q : r.2.2 with
    | mk a b =>
    rw [q] at okr h3r
    have ha : pL L a = if (!decide (limV a = limV e)) = true then a.toList else [] := by
      cases a with
      | none => split <;> rfl
      | some l =>
        show (if l ∈ L then [] else [l]) = if (!decide (limV (some l) = limV e)) = true then [l] else []
        cases e with
        | none =>
          have : l ∉ L := fun hm => by
            obtain ⟨_, z, _⟩ := h1 l hm
            cases z
          rw [if_neg this]
          rfl
        | some e0 =>
          obtain ⟨l', z, z2⟩ := h3r e0 rfl
          cases z
          by_cases w : l = e0
          · subst w
            rw [if_pos (h2 l rfl), if_neg (by simp)]
          · have : l ∉ L := fun hm => by
              obtain ⟨e1, z, z3⟩ := h1 l hm
              cases z
              omega
            have w2 : ¬ limV (some l) = limV (some e0) := fun z => w (Option.some.inj (limV_inj z))
            rw [if_neg this, if_pos (by rw [decide_eq_false w2]; rfl)]
    have small : ∀ h, b = some h → ∀ x ∈ L, x < h := fun h z x hx => by
      subst z
      obtain ⟨e0, z, z2⟩ := h1 x hx
      obtain ⟨l, z3, z4⟩ := h3r e0 z
      cases z3
      have := of_decide_eq_true okr
      omega
    have hb : pL L b = b.toList := by
      cases b with
      | none => rfl
      | some h =>
        show (if h ∈ L then [] else [h]) = [h]
        rw [if_neg fun hm => by have := small h rfl h hm; omega]
    show limsG (L ++ (pL L a ++ pL L b)) t = L ++ (((if (!decide (limV a = limV e)) = true then a.toList else []) ++ b.toList) ++ bdsL (tlG rv b t))
    rw [hb, ha, ← List.append_assoc L]
    have hc1 : ∀ x ∈ t, ∃ h l, b = some h ∧ x.2.2.1 = some l ∧ h ≤ l := fun x hx => by
      have := hc1 x hx
      rw [q] at this
      exact this
    cases t with
    | nil =>
      have : bdsL (tlG rv b []) = [] := by cases b <;> rfl
      rw [this, List.append_nil, List.append_assoc]
      rfl
    | cons x t' =>
      obtain ⟨h, l, z, _⟩ := hc1 x List.mem_cons_self
      subst z
      rw [List.append_assoc L, ← List.append_assoc L _ (bdsL _)]
      refine limsG_tl (x :: t') _ (some h) hc2 (fun y hy => hok y (List.mem_cons_of_mem _ hy)) (fun y hy => ⟨h, rfl, ?_⟩) (fun e0 z => ?_) (fun e0 z y hy => ?_)
      · rcases List.mem_append.mp hy with hy | hy
        · have := small h rfl y hy
          omega
        · rcases List.mem_append.mp hy with hy | hy
          · split at hy
            · cases a with
              | none => exact (List.not_mem_nil hy).elim
              | some l0 =>
                rw [List.mem_singleton.mp hy]
                have := of_decide_eq_true okr
                omega
            · exact (List.not_mem_nil hy).elim
          · rw [List.mem_singleton.mp hy]
            exact Int.le_refl _
      · cases z
        exact List.mem_append_right _ (List.mem_append_right _ (List.mem_singleton.mpr rfl))
      · cases z
        obtain ⟨h', l', z1, z2, z3⟩ := hc1 y hy
        cases z1
        exact ⟨l', z2, z3⟩
theorem lims_strT {rv : V} {rows : List Row} (hc : chainR rows) (hok : ∀ r ∈ rows, okS r.2.2 = true) : limsG [] rows = bdsL (strT rv rows) := by
  cases rows with
  | nil => rfl
  | cons r t =>
    rw [strT_cons]
    exact limsG_tl (r :: t) [] none hc hok (fun x hx => (List.not_mem_nil hx).elim) (fun e0 z => by cases z) (fun e0 z => by cases z)
theorem count_ok {rv : V} {rows : List Row} (hrv : ∀ r ∈ rows, rv ≠ V.str r.1) (hnd : (rows.map (·.1)).Nodup) (hok : ∀ r ∈ rows, okS r.2.2 = true) (hc : chainR rows) : (strT rv rows).length = 1 + ((limsG [] rows).filter fun l => !decide (partR rows rv (l - 1) = partR rows rv l)).length := by
  obtain ⟨h1, h2⟩ := (tile_strT hrv hnd hok hc).len
  rw [h1, lims_strT (rv := rv) hc hok, List.filter_eq_self.mpr fun b hb => by rw [decide_eq_false (h2 b hb)]; rfl]
/-! ### promises for the stretches -/
def sp_has (K : PySem.W.Frag) : Sp := fun vs H Q _ => ∃ (a : Addr) (s : Span) (i : Int), vs = [.ref a, .int i] ∧ SqT K H a (spV s) ∧ Q (.bl (inS s i)) H
def rowsM (rr : List MRow) : List Row := rr.map fun r => (r.2.1, r.2.2.1, r.2.2.2)
/-- what is known beside the box and the tables -/
def nb (H : Hp) (p : Addr) : Hp := fun b => if b = p then none else match H b with
  | some (.tbl _) => none
  | o => o
theorem nb_some {H : Hp} {p b : Addr} {o : HO} (h : nb H p b = some o) : b ≠ p ∧ H b = some o ∧ ∀ ps, o ≠ .tbl ps := by
  unfold nb at h
  by_cases z : b = p
  · rw [if_pos z] at h
    cases h
  · rw [if_neg z] at h
    cases q : H b with
    | none => rw [q] at h; cases h
    | some u =>
      rw [q] at h
      cases u with
      | tbl ps => cases h
      | _ =>
        cases h
        exact ⟨z, rfl, fun ps w => by cases w⟩
theorem nb_of {H : Hp} {p b : Addr} {o : HO} (h1 : b ≠ p) (h2 : H b = some o) (h3 : ∀ ps, o ≠ .tbl ps) : nb H p b = some o := by
  unfold nb
  rw [if_neg h1, h2]
  cases o with
  | tbl ps => exact absurd rfl (h3 ps)
  | _ => rfl
theorem nb_ex {H H' : Hp} {p : Addr} (s : EX [p] H H') : Same (nb H p) (nb H' p) := fun b o e => by
  obtain ⟨h1, h2, h3⟩ := nb_some e
  exact nb_of h1 (s b o (by simpa using h1) h2 h3) h3
theorem nb_le (H : Hp) (p : Addr) : Same (nb H p) H := fun b o e => (nb_some e).2.1
/-- the box, the table -/
structure LS (H : Hp) (p : Addr) (n : Nat) (P : Addr) : Prop where
  box : BoxAt H p n
  tab : LamX.TabS H P lamQ
theorem LS.keep {H H' : Hp} {p : Addr} {n : Nat} {P : Addr} (S : LS H p n P) (s : Same H H') : LS H' p n P := ⟨S.box.nd (.of s), S.tab.ext s⟩
theorem LS.mono {H : Hp} {p : Addr} {n m : Nat} {P : Addr} (S : LS H p n P) (h : n ≤ m) : LS H p m P := ⟨S.box.mono h, S.tab⟩
theorem LS.after {H H' : Hp} {p : Addr} {n m : Nat} {P : Addr} (S : LS H p n P) (B : BoxIn (but H p) H' p m) : LS H' p m P := ⟨B.box, (S.box.tabS S.tab).ext B.same⟩
theorem ex_of {H H' : Hp} {p : Addr} {m : Nat} (B : BoxIn (but H p) H' p m) : EX [p] H H' := fun b o n e _ => B.same b o (by rw [but_ne (by simpa using n)]; exact e)
theorem LS.ne {H : Hp} {p a : Addr} {n : Nat} {P : Addr} (S : LS H p n P) (h : H a = none) : a ≠ p := by
  obtain ⟨_, _, _, hp, _⟩ := S.box
  exact (ne_of_none hp h).symm
def sp_lcat (K : PySem.W.Frag) (C P : Addr) : Sp := fun vs H Q _ => ∃ (p : Addr) (n : Nat) (q : Addr) (rr : List MRow) (rt : Option Str) (left : List Str), vs = [.ref p, .ref q] ∧ LS H p n P ∧ MdAt (nb H p) q rr rt left ∧ rr.length ≤ 7 ∧ n + 20 < 1000000 ∧
  ∀ (H' : Hp) (x : Addr) (rs : List Row), EX [p] H H' → LS H' p (n + 20) P → CatAt K C (nb H' p) x rs rt → rs.Perm (rowsM rr) → Q (.ref x) H'
def sp_lpart : Sp := fun vs H Q _ => ∃ (q : Addr) (k : Int) (rr : List MRow) (rt : Option Str) (left : List Str), vs = [.ref q, .int k] ∧ MdAt H q rr rt left ∧ rr.length ≤ 60 ∧ ∀ H', Same H H' → Q (partR (rowsM rr) (rvO rt) k) H'
def innerI : Option Int → Option Int → List Int
  | none, none => [-(10 ^ 29), 0, 10 ^ 29]
  | none, some h => [h - 1, h - 10 ^ 29]
  | some l, none => [l, l + 10 ^ 29]
  | some l, some h => [l, h - 1, (l + h) / 2]
def sp_linner : Sp := fun vs H Q _ => ∃ (lo hi : Option Int), vs = [limV lo, limV hi] ∧ ∀ p H', Same H H' → H p = none → H' p = some (.lst ((innerI lo hi).map V.int)) → Q (.ref p) H'
def sp_lcount : Sp := fun vs H Q _ => ∃ (q : Addr) (rr : List MRow) (rt : Option Str) (left : List Str), vs = [.ref q] ∧ MdAt H q rr rt left ∧ rr.length ≤ 60 ∧ ∀ H', Same H H' → Q (.int (1 + (((limsG [] (rowsM rr)).filter fun l => !decide (partR (rowsM rr) (rvO rt) (l - 1) = partR (rowsM rr) (rvO rt) l)).length : Nat))) H'
def sp_cstr (K : PySem.W.Frag) (C : Addr) : Sp := fun vs H Q _ => ∃ (x : Addr) (rs : List Row) (rt : Option Str), vs = [.ref x] ∧ CatAt K C H x rs rt ∧ rs.length ≤ 60 ∧ ∀ p xs, H p = none → StAt H xs (strT (rvO rt) (ordR (sortR rs))) → Q (.ref p) (upd H p (.lst xs))
def sp_cpart (K : PySem.W.Frag) (C CK : Addr) : Sp := fun vs H Q E => ∃ (x : Addr) (k : Int) (rs : List Row) (rt : Option Str) (st : StR), vs = [.ref x, .int k] ∧ CatAt K C H x rs rt ∧ (strT (rvO rt) (ordR (sortR rs))).find? (fun st => hiB st.2.1 k) = some st ∧ ∀ H', Same H H' → Q st.2.2 H'
def sp_lright (K : PySem.W.Frag) (C : Addr) : Sp := fun vs H Q _ => ∃ (x q : Addr) (rs : List Row) (rr : List MRow) (rt : Option Str) (left : List Str), vs = [.ref x, .ref q] ∧ CatAt K C H x rs rt ∧ MdAt H q rr rt left ∧ rs.Perm (rowsM rr) ∧ rr.length ≤ 7 ∧ ∀ H', Same H H' → Q (.bl true) H'
theorem lkT (d : Addr) (rv : V) (l p : Addr) : (fsC d rv l p).lookup ("_stretches" : Str) = some (.ref p) := by simp [fsC, List.lookup, sb "_stretches" "_spans", sb "_stretches" "_rest", sb "_stretches" "_names"]
theorem in_intsC (k : Int) (L : List Int) : inV (.int k) (L.map V.int) = decide (k ∈ L) := by
  unfold inV
  rw [Bool.eq_iff_iff, List.any_eq_true, decide_eq_true_iff]
  constructor
  · rintro ⟨z, hz, e⟩
    obtain ⟨t, ht, rfl⟩ := List.mem_map.mp hz
    have : (t == k) = true := e
    rw [← eq_of_beq this]
    exact ht
  · intro h
    exact ⟨_, List.mem_map.mpr ⟨k, h, rfl⟩, by show (k == k) = true; simp⟩
theorem flat_intsC (L : List Int) : (L.map V.int).all flatV = true := by
  rw [List.all_eq_true]
  intro x hx
  obtain ⟨s, _, rfl⟩ := List.mem_map.mp hx
  rfl
theorem limsG_len : ∀ (l : List Row) (L : List Int), (limsG L l).length ≤ L.length + 2 * l.length
  | [], L => Nat.le_refl _
  | r :: t, L => by
    have h1 := limsG_len t (L ++ newL L r.2.2)
    have h2 : (newL L r.2.2).length ≤ 2 := List.length_filterMap_le _ _
    rw [List.length_append] at h1
    show (limsG (L ++ newL L r.2.2) t).length ≤ _
    rw [List.length_cons]
    omega
def newP (L : List Int) (s : Span) (j : Nat) : List Int := ([s.1, s.2].take j).filterMap fun o => match o with
  | some i => if i ∈ L then none else some i
  | none => none
theorem newP_step {L : List Int} {s : Span} {j : Nat} {o : Option Int} (h : [s.1, s.2][j]? = some o) : newP L s (j + 1) = newP L s j ++ pL L o := by
  unfold newP
  rw [List.take_add_one, h, List.filterMap_append]
  congr 1
  cases o with
  | none => rfl
  | some i => by_cases q : i ∈ L <;> simp [pL, q]
theorem partR_scal {rs : List Row} {rt : Option Str} (i j : Int) : scal (partR rs (rvO rt) i) (partR rs (rvO rt) j) = true := by
  unfold partR
  cases rs.find? (fun r => inS r.2.2 i) <;> cases rs.find? (fun r => inS r.2.2 j) <;> cases rt <;> rfl
/-! ### catalogs of rows drawn -/
theorem paired_imp {α β : Type} {R S : α → β → Prop} (h : ∀ a b, R a b → S a b) : ∀ {l : List α} {m : List β}, PySem.Paired R l m → PySem.Paired S l m
  | _, _, .nil => .nil
  | _, _, .cons a b => .cons (h _ _ a) (paired_imp h b)
theorem paired_snoc {α β : Type} {R : α → β → Prop} {a : α} {b : β} (h : R a b) : ∀ {l : List α} {m : List β}, PySem.Paired R l m → PySem.Paired R (l ++ [a]) (m ++ [b])
  | _, _, .nil => .cons h .nil
  | _, _, .cons x y => .cons x (paired_snoc h y)
theorem paired_perm {α β : Type} {R : α → β → Prop} {l l' : List α} (p : l'.Perm l) : ∀ {m : List β}, PySem.Paired R l m → ∃ m', PySem.Paired R l' m' ∧ m'.Perm m := by
  suffices h : ∀ {l l' : List α}, l.Perm l' → ∀ {m : List β}, PySem.Paired R l m → ∃ m', PySem.Paired R l' m' ∧ m'.Perm m from fun {m} hp => h p.symm hp
  intro l l' p
  induction p with
  | nil => exact fun h => ⟨_, h, List.Perm.refl _⟩
  | cons x _ ih =>
    intro m h
    cases h with
    | cons a b =>
      obtain ⟨m', h1, h2⟩ := ih b
      exact ⟨_, .cons a h1, h2.cons _⟩
  | swap x y l =>
    intro m h
    cases h with
    | cons a b =>
      cases b with
      | cons c d => exact ⟨_, .cons c (.cons a d), List.Perm.swap _ _ _⟩
  | trans _ _ ih1 ih2 =>
    intro m h
    obtain ⟨m1, h1, h2⟩ := ih1 h
    obtain ⟨m2, h3, h4⟩ := ih2 h1
    exact ⟨m2, h3, h4.trans h2⟩
theorem mergeK_nod : ∀ (l acc : List (Key × V)), ((acc ++ l).map (·.1)).Nodup → mergeK acc l = acc ++ l
  | [], acc, _ => (List.append_nil acc).symm
  | p :: r, acc, h => by
    have hk : ¬ ((acc.any fun kv => decide (kv.1 = p.1)) = true) := fun e => by
      obtain ⟨x, hx, e⟩ := List.any_eq_true.mp e
      rw [List.map_append, List.map_cons] at h
      exact (List.nodup_append.mp h).2.2 x.1 (List.mem_map.mpr ⟨x, hx, rfl⟩) p.1 List.mem_cons_self (of_decide_eq_true e)
    have e : putK acc p.1 p.2 = acc ++ [p] := by
      unfold putK
      rw [if_neg hk]
    show mergeK (putK acc p.1 p.2) r = _
    rw [e, mergeK_nod r (acc ++ [p]) (by rw [List.append_assoc]; exact h), List.append_assoc]
    rfl
theorem ovlR_none : ∀ (t acc : List Row), (∀ a ∈ acc, ∀ r ∈ t, meetB a.2.2 r.2.2 = false) → (t.Pairwise fun a b => meetB a.2.2 b.2.2 = false) → ovlR acc t = none
  | [], _, _, _ => rfl
  | r :: t, acc, h1, h2 => by
    rw [ovlR_step]
    have h3 : (acc.any fun q => meetB q.2.2 r.2.2) = false := by
      rw [Bool.eq_false_iff]
      intro z
      obtain ⟨a, ha, e⟩ := List.any_eq_true.mp z
      rw [h1 a ha r List.mem_cons_self] at e
      cases e
    rw [h3, if_neg Bool.false_ne_true]
    obtain ⟨h4, h5⟩ := List.pairwise_cons.mp h2
    refine ovlR_none t (acc ++ [r]) (fun a ha x hx => ?_) h5
    rcases List.mem_append.mp ha with ha | ha
    · exact h1 a ha x (List.mem_cons_of_mem _ hx)
    · rw [List.mem_singleton.mp ha]
      exact h4 x hx
theorem chain_apart {rows : List Row} (hc : chainR rows) (hok : ∀ r ∈ rows, okS r.2.2 = true) : ∀ a ∈ rows, ∀ b ∈ rows, a ≠ b → meetB a.2.2 b.2.2 = false := by
  have key : ∀ {s t : Span}, okS s = true → okS t = true → (∃ h l, s.2 = some h ∧ t.1 = some l ∧ h ≤ l) → meetB s t = false ∧ meetB t s = false := fun {s t} hs ht ⟨h, l, e1, e2, e3⟩ => by
    have d : decide (l < h) = false := decide_eq_false (by omega)
    rw [← meetL_eq hs ht, ← meetL_eq ht hs]
    unfold meetL
    rw [e1, e2]
    show (ok2 s.1 t.2 && decide (l < h)) = false ∧ (decide (l < h) && ok2 s.1 t.2) = false
    rw [d, Bool.and_false, Bool.false_and]
    exact ⟨rfl, rfl⟩
  have hpw : rows.Pairwise fun a b => ∃ h l, a.2.2.2 = some h ∧ b.2.2.1 = some l ∧ h ≤ l := by
    have h : List.Pairwise _ (rows.map (·.2.2)) := hc
    rwa [List.pairwise_map] at h
  intro a ha b hb ne
  obtain ⟨i, hi, rfl⟩ := List.mem_iff_getElem.mp ha
  obtain ⟨j, hj, rfl⟩ := List.mem_iff_getElem.mp hb
  rcases Nat.lt_trichotomy i j with z | rfl | z
  · exact (key (hok _ ha) (hok _ hb) (List.pairwise_iff_getElem.mp hpw i j hi hj z)).1
  · exact absurd rfl ne
  · exact (key (hok _ hb) (hok _ ha) (List.pairwise_iff_getElem.mp hpw j i hj hi z)).2
theorem ovl_none {rs rows : List Row} (hp : rs.Perm rows) (hnd : (rows.map (·.1)).Nodup) (hc : chainR rows) (hok : ∀ r ∈ rows, okS r.2.2 = true) : ovl rs = none := by
  have hnd2 : (rs.map (·.1)).Nodup := (hp.map _).nodup_iff.mpr hnd
  have hs := (sortR_perm hnd2).trans hp
  refine ovlR_none _ _ (fun a ha => (List.not_mem_nil ha).elim) ?_
  have hn : (sortR rs).Pairwise fun a b => a ≠ b := by
    have : ((sortR rs).map (·.1)).Nodup := (hs.map _).nodup_iff.mpr hnd
    unfold List.Nodup at this
    rw [List.pairwise_map] at this
    exact this.imp fun h e => h (by rw [e])
  exact hn.imp_of_mem fun {a b} ha hb h => chain_apart hc hok a (hs.mem_iff.mp ha) b (hs.mem_iff.mp hb) h
theorem rowsM_names (rr : List MRow) : (rowsM rr).map (·.1) = rr.map (·.2.1) := by
  unfold rowsM
  rw [List.map_map]
  rfl
theorem rowsM_chain {rr : List MRow} (h : Chain (rr.map (·.2.2.2))) : chainR (rowsM rr) := by
  unfold chainR rowsM
  rw [List.map_map]
  exact h
theorem rowsM_ok {rr : List MRow} (h : ∀ r ∈ rr, okS r.2.2.2 = true) : ∀ r ∈ rowsM rr, okS r.2.2 = true := fun r hr => by
  obtain ⟨m, hm, rfl⟩ := List.mem_map.mp hr
  exact h m hm
def rtD : Option Str → PyData
  | none => .none
  | some s => .str s
theorem rtO_rtD (rt : Option Str) : rtO (some (rtD rt)) = rt := by cases rt <;> rfl
theorem vd_rtD {K : PySem.W.Frag} {H : Hp} {rt : Option Str} (h : ∀ s, rt = some s → nameS s = true) : VD K H (rvO rt) (some (rtD rt)) := by
  cases rt with
  | none => exact .dat .non (by decide) fun s e => by cases e
  | some s => exact vd_key (k := .inr s) ⟨by have := nameC_len (h s rfl); omega, nameC_ok (h s rfl)⟩
/-- rows that do not meet make a catalog -/
theorem cat_good {rs rows : List Row} {rt : Option Str} (hp : rs.Perm rows) (hnd : (rows.map (·.1)).Nodup) (hc : chainR rows) (hok : ∀ r ∈ rows, okS r.2.2 = true) (hnm : ∀ r ∈ rows, nameS r.1 = true) (hr : ∀ s, rt = some s → nameS s = true ∧ s ∉ rows.map (·.1)) (hl : rows.length + rt.toList.length ≤ 8) : catF (rs.map rE) (rvO rt) (some (rtD rt)) = none := by
  have hnd2 : (rs.map (·.1)).Nodup := (hp.map _).nodup_iff.mpr hnd
  have nk : nodK (rs.map rE) := by
    unfold nodK
    rw [List.map_map]
    unfold List.Nodup at hnd2 ⊢
    rw [List.pairwise_map] at hnd2 ⊢
    exact hnd2.imp fun h e => h (Sum.inr.inj e)
  rw [catF_go (rsF_of_good nk fun e he => ?_), rowsE_rows, catR_go (ovl_none hp hnd hc hok)]
  · have hlen : (rs.map (·.1)).length + rt.toList.length ≤ 8 := by
      rw [List.length_map, hp.length_eq]
      exact hl
    unfold restR
    cases rt with
    | none =>
      have e1 : nonO (some (rtD none)) = true := rfl
      have hlen : ¬ 8 < (rs.map (·.1)).length := by
        have : (none : Option Str).toList.length = 0 := rfl
        omega
      rw [e1, if_pos rfl, if_neg hlen]
    | some s =>
      obtain ⟨h1, h2⟩ := hr s rfl
      have h3 : s ∉ rs.map (·.1) := fun z => h2 ((hp.map _).mem_iff.mp z)
      have e1 : nonO (some (rtD (some s))) = false := rfl
      have e2 : nameO (some (rtD (some s))) = true := h1
      have e3 : inNames (rs.map (·.1)) (some (rtD (some s))) = false := decide_eq_false h3
      have hlen : ¬ 8 < (rs.map (·.1)).length + 1 := by
        have : (some s : Option Str).toList.length = 1 := rfl
        omega
      rw [e1, if_neg Bool.false_ne_true, e2, if_neg (by decide), e3, if_neg Bool.false_ne_true, if_neg hlen]
  · obtain ⟨r, hr', rfl⟩ := List.mem_map.mp he
    have hm := hp.mem_iff.mp hr'
    unfold goodE
    rw [Bool.and_eq_true]
    refine ⟨hnm r hm, ?_⟩
    have : spanO (some (spD r.2.2)) = okS r.2.2 := spanO_ok _
    exact this.trans (hok r hm)
theorem SqT.nbC {K : PySem.W.Frag} {H : Hp} {p a : Addr} {n : Nat} {xs : List V} (b : BoxAt H p n) (h : SqT K H a xs) : SqT K (nb H p) a xs := by
  obtain ⟨_, _, _, hp, _⟩ := b
  rcases h with (h | ⟨o, h⟩) | h
  · exact .inl (.inl (nb_of (ne_of h hp (by intro z; cases z)) h fun ps z => by cases z))
  · exact .inl (.inr ⟨o, nb_of (ne_of h hp (by intro z; cases z)) h fun ps z => by cases z⟩)
  · exact .inr h
/-- a catalog just made, seen beside the box and the tables -/
theorem CatNew.nbC {K : PySem.W.Frag} {C : Addr} {H0 H : Hp} {p x : Addr} {n : Nat} {rs : List Row} {rt : Option Str} (b : BoxAt H p n) (h0 : ∃ o, H0 p = some o) (h : CatNew K C H0 H x rs rt) : CatAt K C (nb H p) x rs rt := by
  obtain ⟨dx, d, l, s, xs, h1, h2, h3, h4, h5, h6, h7, h8⟩ := h
  obtain ⟨o, ho⟩ := h0
  have ne : ∀ {a : Addr}, H0 a = none → a ≠ p := fun e z => by
    rw [z, ho] at e
    cases e
  have b' := b
  obtain ⟨_, _, _, hp, _⟩ := b'
  obtain ⟨zs, e1, e2, e3⟩ := h4.2
  exact ⟨dx, d, l, s, xs, nb_of (ne_of h1 hp (by intro z; cases z)) h1 (fun ps z => by cases z), nb_of (ne h6) h2 (fun ps z => by cases z), nb_of (ne h7) h3 (fun ps z => by cases z), ⟨nb_of (ne h8) h4.1 (fun ps z => by cases z), zs, e1, e2, fun z hz => nb_of (ne_of (e3 z hz) hp (by intro z; cases z)) (e3 z hz) (fun ps z => by cases z)⟩, fun r hr => ⟨SqT.nbC b (h5 r hr).1, (h5 r hr).2⟩⟩
theorem lkSt (d : Addr) (rv : V) (l p : Addr) : (fsC d rv l p).lookup ("stretches" : Str) = none := by simp [fsC, List.lookup, sb "stretches" "_spans", sb "stretches" "_rest", sb "stretches" "_names", sb "stretches" "_stretches"]
theorem lkPo (d : Addr) (rv : V) (l p : Addr) : (fsC d rv l p).lookup ("part_of" : Str) = none := by simp [fsC, List.lookup, sb "part_of" "_spans", sb "part_of" "_rest", sb "part_of" "_names", sb "part_of" "_stretches"]
/-- a stretch's part: None or a short text -/
def wOk (w : V) : Prop := w = .non ∨ ∃ s, w = .str s ∧ nameS s = true
def wD : V → PyData
  | .str s => .str s
  | _ => .none
def stD (s : StR) : PyData := .tuple [limD s.1, limD s.2.1, wD s.2.2]
theorem wOk_scal {a b : V} (ha : wOk a) (hb : wOk b) : scal a b = true := by
  rcases ha with rfl | ⟨s, rfl, _⟩ <;> rcases hb with rfl | ⟨t, rfl, _⟩ <;> rfl
theorem st_dp {K : PySem.W.Frag} {H : Hp} : ∀ {zs : List (Addr × StR)}, (∀ z ∈ zs, H z.1 = some (.tup (stV z.2))) → (∀ z ∈ zs, wOk z.2.2.2) → DpAll K H (zs.map fun z => V.ref z.1) (zs.map fun z => stD z.2)
  | [], _, _ => .nil
  | z :: t, h, w => .cons (.tup (SqT.of (h z List.mem_cons_self)) (.cons (dp_lim _) (.cons (dp_lim _) (.cons (by
      rcases w z List.mem_cons_self with e | ⟨s, e, _⟩
      · rw [e]; exact .non
      · rw [e]; exact .str s) .nil)))) (st_dp (fun x hx => h x (List.mem_cons_of_mem _ hx)) fun x hx => w x (List.mem_cons_of_mem _ hx))
theorem st_sh {zs : List (Addr × StR)} (w : ∀ z ∈ zs, wOk z.2.2.2) : SeqAt.shaped (.list (zs.map fun z => stD z.2)) = true := shaped_list (n := 1) (by decide) fun d hd => by
  obtain ⟨z, hz, rfl⟩ := List.mem_map.mp hd
  have h3 : (wD z.2.2.2).canLay0 = true ∧ (wD z.2.2.2).depth = 0 := by
    rcases w z hz with e | ⟨s, e, hn⟩
    · rw [e]
      exact ⟨rfl, rfl⟩
    · rw [e]
      refine ⟨?_, by simp [wD, PyData.depth]⟩
      simp only [wD, PyData.canLay0]
      exact nameC_ok hn
  have hl : ∀ o : Option Int, (limD o).canLay0 = true ∧ (limD o).depth = 0 := fun o => by
    cases o
    · exact ⟨rfl, rfl⟩
    · exact ⟨by simp [limD, PyData.canLay0], by simp [limD, PyData.depth]⟩
  constructor
  · simp only [stD, PyData.canLay0]
    refine canAll_mem.mpr fun d hd => ?_
    simp only [List.mem_cons, List.not_mem_nil, or_false] at hd
    rcases hd with rfl | rfl | rfl
    · exact (hl _).1
    · exact (hl _).1
    · exact h3.1
  · have : PyData.depthAll [limD z.2.1, limD z.2.2.1, wD z.2.2.2] ≤ 0 := depthAll_le fun d hd => by
      simp only [List.mem_cons, List.not_mem_nil, or_false] at hd
      rcases hd with rfl | rfl | rfl
      · exact Nat.le_of_eq (hl _).2
      · exact Nat.le_of_eq (hl _).2
      · exact Nat.le_of_eq h3.2
    simp only [stD, PyData.depth]
    omega
theorem strG_w {rv : V} : ∀ (l : List Row) (e : Option Int) (st : StR), st ∈ strG rv e l → st.2.2 = rv ∨ ∃ r ∈ l, st.2.2 = .str r.1
  | r :: t, e, st, h => by
    unfold strG at h
    rcases List.mem_append.mp h with h | h
    · split at h
      · rw [List.mem_singleton.mp h]
        exact .inl rfl
      · exact (List.not_mem_nil h).elim
    · rcases List.mem_cons.mp h with rfl | h
      · exact .inr ⟨r, List.mem_cons_self, rfl⟩
      · rcases strG_w t _ st h with z | ⟨x, hx, z⟩
        · exact .inl z
        · exact .inr ⟨x, List.mem_cons_of_mem _ hx, z⟩
theorem strT_w {rv : V} {l : List Row} {st : StR} (h : st ∈ strT rv l) : st.2.2 = rv ∨ ∃ r ∈ l, st.2.2 = .str r.1 := by
  have key : ∀ st, st ∈ strG rv none l ++ [(endG none l, none, rv)] → st.2.2 = rv ∨ ∃ r ∈ l, st.2.2 = .str r.1 := fun st h => by
    rcases List.mem_append.mp h with h | h
    · exact strG_w l none st h
    · rw [List.mem_singleton.mp h]
      exact .inl rfl
  unfold strT at h
  split at h
  · exact key st h
  · split at h
    · exact key st h
    · exact strG_w l none st h
theorem strT_len {rv : V} {l : List Row} : (strT rv l).length ≤ 2 * l.length + 1 := by
  have h := strG_len rv l none
  unfold strT
  split
  · rw [List.length_append, List.length_singleton]; omega
  · split
    · rw [List.length_append, List.length_singleton]; omega
    · omega
theorem inner_in {lo hi : Option Int} (h : okS (lo, hi) = true) : ∀ k ∈ innerI lo hi, inS (lo, hi) k = true := by
  intro k hk
  cases lo with
  | none =>
    cases hi with
    | none => rfl
    | some h' =>
      simp only [innerI, List.mem_cons, List.not_mem_nil, or_false] at hk
      show (true && decide (k < h')) = true
      rw [Bool.true_and]
      refine decide_eq_true ?_
      rcases hk with rfl | rfl
      · omega
      · have : (0 : Int) < 10 ^ 29 := by decide
        omega
  | some l =>
    cases hi with
    | none =>
      simp only [innerI, List.mem_cons, List.not_mem_nil, or_false] at hk
      show (decide (l ≤ k) && true) = true
      rw [Bool.and_true]
      refine decide_eq_true ?_
      rcases hk with rfl | rfl
      · omega
      · have : (0 : Int) < 10 ^ 29 := by decide
        omega
    | some h' =>
      have h : l < h' := of_decide_eq_true h
      simp only [innerI, List.mem_cons, List.not_mem_nil, or_false] at hk
      show (decide (l ≤ k) && decide (k < h')) = true
      rw [Bool.and_eq_true, decide_eq_true_iff, decide_eq_true_iff]
      rcases hk with rfl | rfl | rfl
      · omega
      · omega
      · omega
theorem st_dp1 {K : PySem.W.Frag} {H : Hp} {a : Addr} {s : StR} (h : H a = some (.tup (stV s))) (w : wOk s.2.2) : Dp K H (.ref a) (stD s) := .tup (SqT.of h) (.cons (dp_lim _) (.cons (dp_lim _) (.cons (by
  rcases w with e | ⟨s', e, _⟩
  · rw [e]; exact .non
  · rw [e]; exact .str s') .nil)))
theorem MdAt.ofND {H H' : Hp} {q : Addr} {rr : List MRow} {rt : Option Str} {left : List Str} (s : ND H H') (h : MdAt H q rr rt left) : MdAt H' q rr rt left := by
  obtain ⟨⟨lr, ll, h1, h2, h3⟩, h4, h5, h6, h7, h8⟩ := h
  exact ⟨⟨lr, ll, s _ _ h1 rfl, s _ _ h2 rfl, s _ _ h3 rfl⟩, fun r hr => ⟨s _ _ (h4 r hr).1 rfl, s _ _ (h4 r hr).2 rfl⟩, h5, h6, h7, h8⟩
theorem nd_nb {G H : Hp} {p : Addr} (s : Same G H) (g : G p = none) : ND G (nb H p) := fun b o e z => nb_of (fun w => by
  rw [w, g] at e
  cases e) (s _ _ e) fun ps w => by
  rw [w] at z
  cases z
/-! base 3 -/
def gv_Catalog_init_2_rest : List V → List V → List V
  | [u0, u1], [w0] => [u0, u1, w0]
  | _, _ => []
/-- what the top has written -/
structure Txt (K : PySem.W.Frag) (mg : Str → Option Value) (base : Heap) where
  f_InvalidName_init : Addr
  fd_InvalidName_init : FuncData
  F_InvalidName_init : Fun K "__init__" "InvalidName.__init__" s_InvalidName_init f_InvalidName_init fd_InvalidName_init
  b_InvalidName_init : Binds K fd_InvalidName_init ["self", "value"] []
  f_InvalidSpan_init : Addr
  fd_InvalidSpan_init : FuncData
  F_InvalidSpan_init : Fun K "__init__" "InvalidSpan.__init__" s_InvalidSpan_init f_InvalidSpan_init fd_InvalidSpan_init
  b_InvalidSpan_init : Binds K fd_InvalidSpan_init ["self", "value"] []
  f_InvalidSpans_init : Addr
  fd_InvalidSpans_init : FuncData
  F_InvalidSpans_init : Fun K "__init__" "InvalidSpans.__init__" s_InvalidSpans_init f_InvalidSpans_init fd_InvalidSpans_init
  b_InvalidSpans_init : Binds K fd_InvalidSpans_init ["self", "value"] []
  f_InvalidText_init : Addr
  fd_InvalidText_init : FuncData
  F_InvalidText_init : Fun K "__init__" "InvalidText.__init__" s_InvalidText_init f_InvalidText_init fd_InvalidText_init
  b_InvalidText_init : Binds K fd_InvalidText_init ["self", "value"] []
  f_UnknownPart_init : Addr
  fd_UnknownPart_init : FuncData
  F_UnknownPart_init : Fun K "__init__" "UnknownPart.__init__" s_UnknownPart_init f_UnknownPart_init fd_UnknownPart_init
  b_UnknownPart_init : Binds K fd_UnknownPart_init ["self", "name"] []
  f_NameTaken_init : Addr
  fd_NameTaken_init : FuncData
  F_NameTaken_init : Fun K "__init__" "NameTaken.__init__" s_NameTaken_init f_NameTaken_init fd_NameTaken_init
  b_NameTaken_init : Binds K fd_NameTaken_init ["self", "name"] []
  f_Overlap_init : Addr
  fd_Overlap_init : FuncData
  F_Overlap_init : Fun K "__init__" "Overlap.__init__" s_Overlap_init f_Overlap_init fd_Overlap_init
  b_Overlap_init : Binds K fd_Overlap_init ["self", "name"] []
  f_TooMany_init : Addr
  fd_TooMany_init : FuncData
  F_TooMany_init : Fun K "__init__" "TooMany.__init__" s_TooMany_init f_TooMany_init fd_TooMany_init
  b_TooMany_init : Binds K fd_TooMany_init ["self", "bound"] []
  f_is_integer : Addr
  fd_is_integer : FuncData
  F_is_integer : Fun K "is_integer" "is_integer" s_is_integer f_is_integer fd_is_integer
  b_is_integer : Binds K fd_is_integer ["value"] []
  m_is_integer : mg "is_integer" = some (.ref f_is_integer)
  f_is_name : Addr
  fd_is_name : FuncData
  F_is_name : Fun K "is_name" "is_name" s_is_name f_is_name fd_is_name
  b_is_name : Binds K fd_is_name ["value"] []
  m_is_name : mg "is_name" = some (.ref f_is_name)
  f_is_span : Addr
  fd_is_span : FuncData
  F_is_span : Fun K "is_span" "is_span" s_is_span f_is_span fd_is_span
  b_is_span : Binds K fd_is_span ["value"] []
  m_is_span : mg "is_span" = some (.ref f_is_span)
  f_is_limit : Addr
  fd_is_limit : FuncData
  F_is_limit : Fun K "is_limit" "is_limit" s_is_limit f_is_limit fd_is_limit
  b_is_limit : Binds K fd_is_limit ["value"] []
  m_is_limit : mg "is_limit" = some (.ref f_is_limit)
  f_require_name : Addr
  fd_require_name : FuncData
  F_require_name : Fun K "require_name" "require_name" s_require_name f_require_name fd_require_name
  b_require_name : Binds K fd_require_name ["value"] []
  m_require_name : mg "require_name" = some (.ref f_require_name)
  f_require_span : Addr
  fd_require_span : FuncData
  F_require_span : Fun K "require_span" "require_span" s_require_span f_require_span fd_require_span
  b_require_span : Binds K fd_require_span ["value"] []
  m_require_span : mg "require_span" = some (.ref f_require_span)
  f_meet : Addr
  fd_meet : FuncData
  F_meet : Fun K "meet" "meet" s_meet f_meet fd_meet
  b_meet : Binds K fd_meet ["one", "other"] []
  m_meet : mg "meet" = some (.ref f_meet)
  f_common : Addr
  fd_common : FuncData
  F_common : Fun K "common" "common" s_common f_common fd_common
  b_common : Binds K fd_common ["one", "other"] []
  m_common : mg "common" = some (.ref f_common)
  f_span_text : Addr
  fd_span_text : FuncData
  F_span_text : Fun K "span_text" "span_text" s_span_text f_span_text fd_span_text
  b_span_text : Binds K fd_span_text ["span"] []
  m_span_text : mg "span_text" = some (.ref f_span_text)
  f_limit_text : Addr
  fd_limit_text : FuncData
  F_limit_text : Fun K "limit_text" "limit_text" s_limit_text f_limit_text fd_limit_text
  b_limit_text : Binds K fd_limit_text ["limit"] []
  m_limit_text : mg "limit_text" = some (.ref f_limit_text)
  f_read_span : Addr
  fd_read_span : FuncData
  F_read_span : Fun K "read_span" "read_span" s_read_span f_read_span fd_read_span
  b_read_span : Binds K fd_read_span ["text"] []
  m_read_span : mg "read_span" = some (.ref f_read_span)
  f_is_limit_text : Addr
  fd_is_limit_text : FuncData
  F_is_limit_text : Fun K "is_limit_text" "is_limit_text" s_is_limit_text f_is_limit_text fd_is_limit_text
  b_is_limit_text : Binds K fd_is_limit_text ["text"] []
  m_is_limit_text : mg "is_limit_text" = some (.ref f_is_limit_text)
  f_read_limit : Addr
  fd_read_limit : FuncData
  F_read_limit : Fun K "read_limit" "read_limit" s_read_limit f_read_limit fd_read_limit
  b_read_limit : Binds K fd_read_limit ["text"] []
  m_read_limit : mg "read_limit" = some (.ref f_read_limit)
  f_is_number_text : Addr
  fd_is_number_text : FuncData
  F_is_number_text : Fun K "is_number_text" "is_number_text" s_is_number_text f_is_number_text fd_is_number_text
  b_is_number_text : Binds K fd_is_number_text ["text"] []
  m_is_number_text : mg "is_number_text" = some (.ref f_is_number_text)
  f_Catalog_init : Addr
  fd_Catalog_init : FuncData
  F_Catalog_init : FunD K "__init__" "Catalog.__init__" (defArgs s_Catalog_init) (defBody s_Catalog_init) (defScope s_Catalog_init) [.non] [("rest", .non)] f_Catalog_init fd_Catalog_init
  gk_Catalog_init_2_rest : List Value → List Value → List Value
  kb_Catalog_init_2_rest : KBn K fd_Catalog_init ["self", "spans", "rest"] 2 ["rest"] gk_Catalog_init_2_rest gv_Catalog_init_2_rest
  ds_Catalog_init_1 : List Value
  bd_Catalog_init_1 : Binds K fd_Catalog_init ["self", "spans", "rest"] ds_Catalog_init_1
  vd_Catalog_init_1 : Vals [.non, .non] ds_Catalog_init_1
  f_Catalog_eq : Addr
  fd_Catalog_eq : FuncData
  F_Catalog_eq : Fun K "__eq__" "Catalog.__eq__" s_Catalog_eq f_Catalog_eq fd_Catalog_eq
  b_Catalog_eq : Binds K fd_Catalog_eq ["self", "other"] []
  f_Catalog_str : Addr
  fd_Catalog_str : FuncData
  F_Catalog_str : Fun K "__str__" "Catalog.__str__" s_Catalog_str f_Catalog_str fd_Catalog_str
  b_Catalog_str : Binds K fd_Catalog_str ["self"] []
  f_require_spans : Addr
  fd_require_spans : FuncData
  F_require_spans : Fun K "require_spans" "require_spans" s_require_spans f_require_spans fd_require_spans
  b_require_spans : Binds K fd_require_spans ["spans"] []
  m_require_spans : mg "require_spans" = some (.ref f_require_spans)
  f_require_rest : Addr
  fd_require_rest : FuncData
  F_require_rest : Fun K "require_rest" "require_rest" s_require_rest f_require_rest fd_require_rest
  b_require_rest : Binds K fd_require_rest ["rest", "spans"] []
  m_require_rest : mg "require_rest" = some (.ref f_require_rest)
  f_ordered_spans : Addr
  fd_ordered_spans : FuncData
  F_ordered_spans : Fun K "ordered_spans" "ordered_spans" s_ordered_spans f_ordered_spans fd_ordered_spans
  b_ordered_spans : Binds K fd_ordered_spans ["spans"] []
  m_ordered_spans : mg "ordered_spans" = some (.ref f_ordered_spans)
  f_first_meeting : Addr
  fd_first_meeting : FuncData
  F_first_meeting : Fun K "first_meeting" "first_meeting" s_first_meeting f_first_meeting fd_first_meeting
  b_first_meeting : Binds K fd_first_meeting ["spans", "span"] []
  m_first_meeting : mg "first_meeting" = some (.ref f_first_meeting)
  f_all_stretches : Addr
  fd_all_stretches : FuncData
  F_all_stretches : Fun K "all_stretches" "all_stretches" s_all_stretches f_all_stretches fd_all_stretches
  b_all_stretches : Binds K fd_all_stretches ["spans", "rest"] []
  cc_all_stretches : Addr
  pt_all_stretches : Addr
  FC_all_stretches : FunC K "all_stretches" "all_stretches" s_all_stretches f_all_stretches fd_all_stretches cc_all_stretches
  tb_all_stretches : LamX.TabB base mg cc_all_stretches pt_all_stretches
  m_all_stretches : mg "all_stretches" = some (.ref f_all_stretches)
  f_low_place : Addr
  fd_low_place : FuncData
  F_low_place : Fun K "low_place" "low_place" s_low_place f_low_place fd_low_place
  b_low_place : Binds K fd_low_place ["span"] []
  m_low_place : mg "low_place" = some (.ref f_low_place)
  f_read_catalog : Addr
  fd_read_catalog : FuncData
  F_read_catalog : Fun K "read_catalog" "read_catalog" s_read_catalog f_read_catalog fd_read_catalog
  b_read_catalog : Binds K fd_read_catalog ["text"] []
  m_read_catalog : mg "read_catalog" = some (.ref f_read_catalog)
  f_parsed_catalog : Addr
  fd_parsed_catalog : FuncData
  F_parsed_catalog : Fun K "parsed_catalog" "parsed_catalog" s_parsed_catalog f_parsed_catalog fd_parsed_catalog
  b_parsed_catalog : Binds K fd_parsed_catalog ["text"] []
  m_parsed_catalog : mg "parsed_catalog" = some (.ref f_parsed_catalog)
  f_law_cell : Addr
  fd_law_cell : FuncData
  F_law_cell : Fun K "_law_cell" "_law_cell" s_law_cell f_law_cell fd_law_cell
  b_law_cell : Binds K fd_law_cell ["_law_script", "_law_k"] []
  m_law_cell : mg "_law_cell" = some (.ref f_law_cell)
  f_law_box : Addr
  fd_law_box : FuncData
  F_law_box : Fun K "_law_box" "_law_box" s_law_box f_law_box fd_law_box
  b_law_box : Binds K fd_law_box ["_law_cell_here"] []
  m_law_box : mg "_law_box" = some (.ref f_law_box)
  f_law_take : Addr
  fd_law_take : FuncData
  F_law_take : Fun K "_law_take" "_law_take" s_law_take f_law_take fd_law_take
  b_law_take : Binds K fd_law_take ["_law_box_here", "_law_many"] []
  m_law_take : mg "_law_take" = some (.ref f_law_take)
  f_law_mixed : Addr
  fd_law_mixed : FuncData
  F_law_mixed : Fun K "_law_mixed" "_law_mixed" s_law_mixed f_law_mixed fd_law_mixed
  b_law_mixed : Binds K fd_law_mixed ["_law_box_here", "_law_some"] []
  m_law_mixed : mg "_law_mixed" = some (.ref f_law_mixed)
  f_law_names : Addr
  fd_law_names : FuncData
  F_law_names : Fun K "_law_names" "_law_names" s_law_names f_law_names fd_law_names
  b_law_names : Binds K fd_law_names ["_law_box_here", "_law_many"] []
  m_law_names : mg "_law_names" = some (.ref f_law_names)
  f_law_model : Addr
  fd_law_model : FuncData
  F_law_model : Fun K "_law_model" "_law_model" s_law_model f_law_model fd_law_model
  b_law_model : Binds K fd_law_model ["_law_box_here", "_law_most"] []
  m_law_model : mg "_law_model" = some (.ref f_law_model)
  f_law_catalog : Addr
  fd_law_catalog : FuncData
  F_law_catalog : Fun K "_law_catalog" "_law_catalog" s_law_catalog f_law_catalog fd_law_catalog
  b_law_catalog : Binds K fd_law_catalog ["_law_box_here", "_law_model_here"] []
  m_law_catalog : mg "_law_catalog" = some (.ref f_law_catalog)
  f_law_text : Addr
  fd_law_text : FuncData
  F_law_text : Fun K "_law_text" "_law_text" s_law_text f_law_text fd_law_text
  b_law_text : Binds K fd_law_text ["_law_model_here"] []
  m_law_text : mg "_law_text" = some (.ref f_law_text)
  f_law_is_name : Addr
  fd_law_is_name : FuncData
  F_law_is_name : Fun K "_law_is_name" "_law_is_name" s_law_is_name f_law_is_name fd_law_is_name
  b_law_is_name : Binds K fd_law_is_name ["_law_word"] []
  m_law_is_name : mg "_law_is_name" = some (.ref f_law_is_name)
  f_law_number : Addr
  fd_law_number : FuncData
  F_law_number : Fun K "_law_number" "_law_number" s_law_number f_law_number fd_law_number
  b_law_number : Binds K fd_law_number ["_law_word"] []
  m_law_number : mg "_law_number" = some (.ref f_law_number)
  f_law_span : Addr
  fd_law_span : FuncData
  F_law_span : Fun K "_law_span" "_law_span" s_law_span f_law_span fd_law_span
  b_law_span : Binds K fd_law_span ["_law_word"] []
  m_law_span : mg "_law_span" = some (.ref f_law_span)
  f_law_meet : Addr
  fd_law_meet : FuncData
  F_law_meet : Fun K "_law_meet" "_law_meet" s_law_meet f_law_meet fd_law_meet
  b_law_meet : Binds K fd_law_meet ["_law_one", "_law_other"] []
  m_law_meet : mg "_law_meet" = some (.ref f_law_meet)
  f_law_read : Addr
  fd_law_read : FuncData
  F_law_read : Fun K "_law_read" "_law_read" s_law_read f_law_read fd_law_read
  b_law_read : Binds K fd_law_read ["_law_text_here"] []
  m_law_read : mg "_law_read" = some (.ref f_law_read)
  f_law_told : Addr
  fd_law_told : FuncData
  F_law_told : Fun K "_law_told" "_law_told" s_law_told f_law_told fd_law_told
  b_law_told : Binds K fd_law_told ["_law_value"] []
  m_law_told : mg "_law_told" = some (.ref f_law_told)
  f_law_bent : Addr
  fd_law_bent : FuncData
  F_law_bent : Fun K "_law_bent" "_law_bent" s_law_bent f_law_bent fd_law_bent
  b_law_bent : Binds K fd_law_bent ["_law_box_here", "_law_text_here"] []
  m_law_bent : mg "_law_bent" = some (.ref f_law_bent)
  f_law : Addr
  fd_law : FuncData
  F_law : Fun K "law" "law" s_law f_law fd_law
  b_law : Binds K fd_law ["_law_script"] []
  m_law : mg "law" = some (.ref f_law)
  C_PartsError : Addr
  g_PartsError : mg "PartsError" = some (.ref C_PartsError)
  C_InvalidName : Addr
  g_InvalidName : mg "InvalidName" = some (.ref C_InvalidName)
  x_InvalidName : OexC K C_InvalidName
  y_InvalidName : XfC K C_InvalidName
  n_InvalidName : PySem.W.findIn K (.ref C_InvalidName) "value" = some none
  i_InvalidName : PySem.W.findIn K (.ref C_InvalidName) "__init__" = some (some (.ref f_InvalidName_init))
  t_InvalidName : PySem.W.typeIn K (.ref f_InvalidName_init) = some (.type "function")
  C_InvalidSpan : Addr
  g_InvalidSpan : mg "InvalidSpan" = some (.ref C_InvalidSpan)
  x_InvalidSpan : OexC K C_InvalidSpan
  y_InvalidSpan : XfC K C_InvalidSpan
  n_InvalidSpan : PySem.W.findIn K (.ref C_InvalidSpan) "value" = some none
  i_InvalidSpan : PySem.W.findIn K (.ref C_InvalidSpan) "__init__" = some (some (.ref f_InvalidSpan_init))
  t_InvalidSpan : PySem.W.typeIn K (.ref f_InvalidSpan_init) = some (.type "function")
  C_InvalidSpans : Addr
  g_InvalidSpans : mg "InvalidSpans" = some (.ref C_InvalidSpans)
  x_InvalidSpans : OexC K C_InvalidSpans
  y_InvalidSpans : XfC K C_InvalidSpans
  n_InvalidSpans : PySem.W.findIn K (.ref C_InvalidSpans) "value" = some none
  i_InvalidSpans : PySem.W.findIn K (.ref C_InvalidSpans) "__init__" = some (some (.ref f_InvalidSpans_init))
  t_InvalidSpans : PySem.W.typeIn K (.ref f_InvalidSpans_init) = some (.type "function")
  C_InvalidText : Addr
  g_InvalidText : mg "InvalidText" = some (.ref C_InvalidText)
  x_InvalidText : OexC K C_InvalidText
  y_InvalidText : XfC K C_InvalidText
  n_InvalidText : PySem.W.findIn K (.ref C_InvalidText) "value" = some none
  i_InvalidText : PySem.W.findIn K (.ref C_InvalidText) "__init__" = some (some (.ref f_InvalidText_init))
  t_InvalidText : PySem.W.typeIn K (.ref f_InvalidText_init) = some (.type "function")
  C_UnknownPart : Addr
  g_UnknownPart : mg "UnknownPart" = some (.ref C_UnknownPart)
  x_UnknownPart : OexC K C_UnknownPart
  y_UnknownPart : XfC K C_UnknownPart
  n_UnknownPart : PySem.W.findIn K (.ref C_UnknownPart) "name" = some none
  i_UnknownPart : PySem.W.findIn K (.ref C_UnknownPart) "__init__" = some (some (.ref f_UnknownPart_init))
  t_UnknownPart : PySem.W.typeIn K (.ref f_UnknownPart_init) = some (.type "function")
  C_NameTaken : Addr
  g_NameTaken : mg "NameTaken" = some (.ref C_NameTaken)
  x_NameTaken : OexC K C_NameTaken
  y_NameTaken : XfC K C_NameTaken
  n_NameTaken : PySem.W.findIn K (.ref C_NameTaken) "name" = some none
  i_NameTaken : PySem.W.findIn K (.ref C_NameTaken) "__init__" = some (some (.ref f_NameTaken_init))
  t_NameTaken : PySem.W.typeIn K (.ref f_NameTaken_init) = some (.type "function")
  C_Overlap : Addr
  g_Overlap : mg "Overlap" = some (.ref C_Overlap)
  x_Overlap : OexC K C_Overlap
  y_Overlap : XfC K C_Overlap
  n_Overlap : PySem.W.findIn K (.ref C_Overlap) "name" = some none
  i_Overlap : PySem.W.findIn K (.ref C_Overlap) "__init__" = some (some (.ref f_Overlap_init))
  t_Overlap : PySem.W.typeIn K (.ref f_Overlap_init) = some (.type "function")
  C_TooMany : Addr
  g_TooMany : mg "TooMany" = some (.ref C_TooMany)
  x_TooMany : OexC K C_TooMany
  y_TooMany : XfC K C_TooMany
  n_TooMany : PySem.W.findIn K (.ref C_TooMany) "bound" = some none
  i_TooMany : PySem.W.findIn K (.ref C_TooMany) "__init__" = some (some (.ref f_TooMany_init))
  t_TooMany : PySem.W.typeIn K (.ref f_TooMany_init) = some (.type "function")
  C_Catalog : Addr
  g_Catalog : mg "Catalog" = some (.ref C_Catalog)
  cl_Catalog : Cls K C_Catalog
  mk_Catalog : Mk K C_Catalog f_Catalog_init
  ic_Catalog : C8.InsC K C_Catalog
  me_Catalog_init : Meth K C_Catalog "__init__" f_Catalog_init
  me_Catalog_eq : Meth K C_Catalog "__eq__" f_Catalog_eq
  me_Catalog_str : Meth K C_Catalog "__str__" f_Catalog_str
  no_Catalog_spans : NoAttr K C_Catalog "_spans"
  no_Catalog_rest : NoAttr K C_Catalog "_rest"
  no_Catalog_names : NoAttr K C_Catalog "_names"
  no_Catalog_stretches : NoAttr K C_Catalog "_stretches"
  io_Catalog_list : PySem.W.kitOne K (.type "list") (.ref C_Catalog) = some false
  nf_Catalog_list : PySem.W.notFirst K C_Catalog (.type "list") = true
  io_Catalog_str : PySem.W.kitOne K (.type "str") (.ref C_Catalog) = some false
  nf_Catalog_str : PySem.W.notFirst K C_Catalog (.type "str") = true
  io_own_Catalog_str : PySem.W.kitOne K (.ref C_Catalog) (.type "str") = some false
  e_InvalidName_PartsError : PySem.W.exmOne K (.ref C_InvalidName) (.ref C_PartsError) = some true
  e_InvalidSpan_PartsError : PySem.W.exmOne K (.ref C_InvalidSpan) (.ref C_PartsError) = some true
  e_InvalidSpans_PartsError : PySem.W.exmOne K (.ref C_InvalidSpans) (.ref C_PartsError) = some true
  e_InvalidText_PartsError : PySem.W.exmOne K (.ref C_InvalidText) (.ref C_PartsError) = some true
  e_NameTaken_PartsError : PySem.W.exmOne K (.ref C_NameTaken) (.ref C_PartsError) = some true
  e_Overlap_PartsError : PySem.W.exmOne K (.ref C_Overlap) (.ref C_PartsError) = some true
  e_TooMany_PartsError : PySem.W.exmOne K (.ref C_TooMany) (.ref C_PartsError) = some true
  e_InvalidText_InvalidText : PySem.W.exmOne K (.ref C_InvalidText) (.ref C_InvalidText) = some true
  t_LONGEST_NAME : Tok
  c_LONGEST_NAME : mg "LONGEST_NAME" = some (.int 8 t_LONGEST_NAME)
  t_MOST_DIGITS : Tok
  c_MOST_DIGITS : mg "MOST_DIGITS" = some (.int 30 t_MOST_DIGITS)
  t_MOST_PARTS : Tok
  c_MOST_PARTS : mg "MOST_PARTS" = some (.int 8 t_MOST_PARTS)
  z_isinstance : mg "isinstance" = none
  z_int : mg "int" = none
  z_bool : mg "bool" = none
  z_all : mg "all" = none
  z_str : mg "str" = none
  z_len : mg "len" = none
  z_tuple : mg "tuple" = none
  z_max : mg "max" = none
  z_min : mg "min" = none
  z_sorted : mg "sorted" = none
  z_list : mg "list" = none
  z_dict : mg "dict" = none
  z_part : mg "part" = none
  z_range : mg "range" = none

section
variable {K : PySem.W.Frag} {mg : Str → Option Value} {base : Heap}
def C5 (T : Txt K mg base) : Nat → Addr
  | 0 => T.C_InvalidSpans
  | 1 => T.C_InvalidName
  | 2 => T.C_InvalidSpan
  | 3 => T.C_Overlap
  | 4 => T.C_NameTaken
  | _ => T.C_TooMany
end
/-! base 4 -/
/-! ### catalogs with other parts -/
def isNm (ns : List Str) (w : V) : Bool := ns.any fun s => decide (w = .str s)
def sp_chas (K : PySem.W.Frag) (C : Addr) : Sp := fun vs H Q _ => ∃ (x : Addr) (w : V) (rs : List Row) (rt : Option Str), vs = [.ref x, w] ∧ flatV w = true ∧ CatAt K C H x rs rt ∧ ∀ H', Same H H' → Q (.bl (inV w ((nmsC rs rt).map V.str))) H'
theorem RzX.fresh {xs : List Addr} {H HM : Hp} {E : XK} {C : Addr} {f : Str} {v : V} (s : Same H HM) (n : ∀ x ∈ xs, H x = none) (h : RzX [] H E C f v) : RzX xs HM E C f v := fun d H' nd hd sx => h d H' (s.free nd) hd fun b o _ e => sx b o (fun hb => by
  rw [n b hb] at e
  cases e) (s _ _ e)
theorem rows_ev {K : PySem.W.Frag} {H : Hp} {rs : List Row} (h : RowsOk K H rs) : EV K H (rs.map rE) := fun e he => by
  obtain ⟨r, hr, rfl⟩ := List.mem_map.mp he
  have nm := (h r hr).2.2
  exact ⟨vd_sp (h r hr).1, by have := nameC_len nm; exact ⟨by omega, nameC_ok nm⟩⟩
theorem rows_nodK {rs : List Row} (h : (rs.map (·.1)).Nodup) : nodK (rs.map rE) := by
  unfold nodK
  rw [List.map_map]
  unfold List.Nodup at h ⊢
  rw [List.pairwise_map] at h ⊢
  exact h.imp fun h e => h (Sum.inr.inj e)
theorem rows_good {K : PySem.W.Frag} {H : Hp} {rs : List Row} (hr : RowsOk K H rs) (h : (rs.map (·.1)).Nodup) : rsF (rs.map rE) = none := rsF_of_good (rows_nodK h) fun e he => by
  obtain ⟨r, hr', rfl⟩ := List.mem_map.mp he
  unfold goodE
  rw [Bool.and_eq_true]
  refine ⟨(hr r hr').2.2, ?_⟩
  have : spanO (some (spD r.2.2)) = okS r.2.2 := spanO_ok _
  exact this.trans (hr r hr').2.1
theorem sortR_ok {K : PySem.W.Frag} {H : Hp} {rs : List Row} (h : RowsOk K H rs) : RowsOk K H (sortR rs) := fun r hr => h r (sortR_mem hr)
/-- with_rest(rv): rows as they are -/
def sp_cwr (K : PySem.W.Frag) (C : Addr) (Cs : Nat → Addr) (P : Addr) : Sp := fun vs H Q E => ∃ (x : Addr) (rv : V) (rd : PyData) (rs : List Row) (rt : Option Str), vs = [.ref x, rv] ∧ CatAt K C H x rs rt ∧ (rs.map (·.1)).Nodup ∧ rs.length ≤ 50 ∧ VD K H rv (some rd) ∧ LamX.TabS H P lamQ ∧
  (∀ q, catR (sortR rs) rv (some rd) = some q → ExC [] H E Cs q) ∧ (catR (sortR rs) rv (some rd) = none → ∀ x' H', EX [] H H' → LamX.TabS H' P lamQ → CatNew K C H H' x' (sortR rs) (rtO (some rd)) → rv = rvO (rtO (some rd)) → Q (.ref x') H')
/-- what with_part refuses -/
def wpR (rs : List Row) (rt : Option Str) (nv sv : V) (nd sd : PyData) : Option (Nat × V) :=
  if nameO (some nd) = false then some (1, nv) else if spanO (some sd) = false then some (2, sv) else if inV nv ((nmsC rs rt).map V.str) = true then some (4, nv) else match (sortR rs).find? fun r => meetB r.2.2 (spOf sd) with
  | some r => some (3, .str r.1)
  | none => none
def sp_cwp (K : PySem.W.Frag) (C : Addr) (Cs : Nat → Addr) (P : Addr) : Sp := fun vs H Q E => ∃ (x : Addr) (nv sv : V) (nd sd : PyData) (rs : List Row) (rt : Option Str), vs = [.ref x, nv, sv] ∧ CatAt K C H x rs rt ∧ (rs.map (·.1)).Nodup ∧ rs.length ≤ 50 ∧ VD K H nv (some nd) ∧ VD K H sv (some sd) ∧ LamX.TabS H P lamQ ∧ (∀ s, rt = some s → nameS s = true) ∧
  (∀ q, wpR rs rt nv sv nd sd = some q → ExC [] H E Cs q) ∧ (wpR rs rt nv sv nd sd = none → ∀ s a sp, nv = .str s → sv = .ref a → sd = spD sp → (∀ q, catR (sortR rs ++ [(s, a, sp)]) (rvO rt) (some (rtD rt)) = some q → ExC [] H E Cs q) ∧
    (catR (sortR rs ++ [(s, a, sp)]) (rvO rt) (some (rtD rt)) = none → ∀ x' H', EX [] H H' → LamX.TabS H' P lamQ → CatNew K C H H' x' (sortR rs ++ [(s, a, sp)]) rt → Q (.ref x') H'))
/-- what is wished of a making of rows that are right one by one -/
def MkP (K : PySem.W.Frag) (C : Addr) (Cs : Nat → Addr) (P : Addr) (H : Hp) (Q : VK) (E : XK) (rs : List Row) (rt : Option Str) : Prop :=
  (∀ q, catR rs (rvO rt) (some (rtD rt)) = some q → ExC [] H E Cs q) ∧ (catR rs (rvO rt) (some (rtD rt)) = none → ∀ x' H', EX [] H H' → LamX.TabS H' P lamQ → CatNew K C H H' x' rs rt → Q (.ref x') H')
theorem MkP.same {K : PySem.W.Frag} {C P : Addr} {Cs : Nat → Addr} {H H1 : Hp} {Q : VK} {E : XK} {rs : List Row} {rt : Option Str} (s : Same H H1) (m : MkP K C Cs P H Q E rs rt) : MkP K C Cs P H1 Q E rs rt :=
  ⟨fun q e => RzX.same s (m.1 q e), fun e x' H' ex hT hc => m.2 e x' H' ((EX.same s).trans ex) hT (hc.back s)⟩
theorem cinit_rows {K : PySem.W.Frag} {C P : Addr} {Cs : Nat → Addr} {H HM : Hp} {Q : VK} {E : XK} {rs : List Row} {rt : Option Str} {x2 dx2 d : Addr} (s : Same H HM) (hx : H x2 = none) (hxM : HM x2 = some (.ins C dx2 [])) (hd : HM d = some (.dK (rs.map rKV))) (hok : RowsOk K HM rs) (hnd : (rs.map (·.1)).Nodup) (hl : rs.length ≤ 60)
    (hrt : ∀ s, rt = some s → nameS s = true) (hT : LamX.TabS HM P lamQ) (m : MkP K C Cs P H Q E rs rt) : sp_cinit K C Cs P [.ref x2, .ref d, rvO rt] HM (fun v H3 => v = .non ∧ Q (.ref x2) H3) E := by
  have hgood := rows_good hok hnd
  have e1 : caR (.ref d) (rvO rt) (some (rtD rt)) (some (some (d, rs.map rE))) = catR rs (rvO rt) (some (rtD rt)) := by
    show catF (rs.map rE) (rvO rt) (some (rtD rt)) = _
    rw [catF_go hgood, rowsE_rows]
  refine ⟨x2, dx2, .ref d, rvO rt, rtD rt, some (some (d, rs.map rE)), rfl, hxM, .some (.dict (by rw [map_rKV]; exact hd) (rows_ev hok) (rows_nodK hnd) (by rw [List.length_map]; omega)) rfl, vd_rtD hrt, hT, fun q er => ?_, fun er H' ex hT' hcn hrv => ⟨rfl, ?_⟩⟩
  · rw [e1] at er
    rw [caL_none hgood]
    exact RzX.fresh s (fun b hb => by rw [List.mem_singleton.mp hb]; exact hx) (m.1 q er)
  · rw [e1] at er
    have hcr : caRows (some (some (d, rs.map rE))) = rs := rowsE_rows _
    rw [hcr, rtO_rtD] at hcn
    exact m.2 er x2 H' (fun b o _ e t => ex b o (by simpa using ne_of_none e hx) (s _ _ e) t) hT' (hcn.back s)
theorem cinit_rowsR {K : PySem.W.Frag} {C P : Addr} {Cs : Nat → Addr} {H HM : Hp} {R : Hp → Prop} {E : XK} {rs : List Row} {rt : Option Str} {x2 dx2 d : Addr} (s : Same H HM) (hx : H x2 = none) (hxM : HM x2 = some (.ins C dx2 [])) (hd : HM d = some (.dK (rs.map rKV))) (hok : RowsOk K HM rs) (hnd : (rs.map (·.1)).Nodup) (hl : rs.length ≤ 60)
    (hrt : ∀ s, rt = some s → nameS s = true) (hT : LamX.TabS HM P lamQ) (m1 : ∀ q, catR rs (rvO rt) (some (rtD rt)) = some q → ExC [] H E Cs q) (m2 : catR rs (rvO rt) (some (rtD rt)) = none → ∀ H', EX [] H H' → LamX.TabS H' P lamQ → CatNew K C H H' x2 rs rt → R H') : sp_cinit K C Cs P [.ref x2, .ref d, rvO rt] HM (fun v H3 => v = .non ∧ R H3) E := by
  have hgood := rows_good hok hnd
  have e1 : caR (.ref d) (rvO rt) (some (rtD rt)) (some (some (d, rs.map rE))) = catR rs (rvO rt) (some (rtD rt)) := by
    show catF (rs.map rE) (rvO rt) (some (rtD rt)) = _
    rw [catF_go hgood, rowsE_rows]
  refine ⟨x2, dx2, .ref d, rvO rt, rtD rt, some (some (d, rs.map rE)), rfl, hxM, .some (.dict (by rw [map_rKV]; exact hd) (rows_ev hok) (rows_nodK hnd) (by rw [List.length_map]; omega)) rfl, vd_rtD hrt, hT, fun q er => ?_, fun er H' ex hT' hcn hrv => ⟨rfl, ?_⟩⟩
  · rw [e1] at er
    rw [caL_none hgood]
    exact RzX.fresh s (fun b hb => by rw [List.mem_singleton.mp hb]; exact hx) (m1 q er)
  · rw [e1] at er
    have hcr : caRows (some (some (d, rs.map rE))) = rs := rowsE_rows _
    rw [hcr, rtO_rtD] at hcn
    exact m2 er H' (fun b o _ e t => ex b o (by simpa using ne_of_none e hx) (s _ _ e) t) hT' (hcn.back s)
theorem in_flatS {w : V} {ns : List Str} (h : inV w (ns.map V.str) = true) : ∃ s, w = .str s ∧ s ∈ ns := by
  obtain ⟨z, hz, e⟩ := List.any_eq_true.mp h
  obtain ⟨s, hs, rfl⟩ := List.mem_map.mp hz
  cases w with
  | str t =>
    have e : (s == t) = true := e
    exact ⟨t, rfl, by rw [← eq_of_beq e]; exact hs⟩
  | _ => cases e
def lessR (rs : List Row) (s : Str) : List Row := rs.filter fun r => !decide (r.1 = s)
def sp_cwo (K : PySem.W.Frag) (C CU : Addr) (Cs : Nat → Addr) (P : Addr) : Sp := fun vs H Q E => ∃ (x : Addr) (w : V) (rs : List Row) (rt : Option Str), vs = [.ref x, w] ∧ flatV w = true ∧ CatAt K C H x rs rt ∧ (rs.map (·.1)).Nodup ∧ rs.length ≤ 50 ∧ (∀ s, rt = some s → nameS s = true) ∧ LamX.TabS H P lamQ ∧
  (inV w ((nmsC rs rt).map V.str) = false → RzX [] H E CU "name" w) ∧ ∀ s, w = .str s → inV w ((nmsC rs rt).map V.str) = true → (rt = some s → MkP K C Cs P H Q E (sortR rs) none) ∧ (rt ≠ some s → MkP K C Cs P H Q E (lessR (sortR rs) s) rt)
theorem lessR_step {L : List Row} {s : Str} {i : Nat} {r : Row} (h : L[i]? = some r) : lessR (L.take (i + 1)) s = lessR (L.take i) s ++ if decide (r.1 = s) = true then [] else [r] := by
  unfold lessR
  rw [List.take_add_one, h, List.filter_append]
  congr 1
  by_cases e : r.1 = s
  · simp [e]
  · simp [e]
theorem lessR_sub {L : List Row} {s : Str} : (lessR L s).Sublist L := List.filter_sublist
theorem nodup_sub {L M : List Row} (h : L.Sublist M) (n : (M.map (·.1)).Nodup) : (L.map (·.1)).Nodup := n.sublist (h.map _)
theorem nd_at {L : List Row} {i : Nat} {r : Row} (n : (L.map (·.1)).Nodup) (h : L[i]? = some r) : r.1 ∉ (L.take i).map (·.1) := fun hm => by
  obtain ⟨q, hq, e⟩ := List.mem_map.mp hm
  obtain ⟨j, hj, rfl⟩ := List.mem_iff_getElem.mp hq
  rw [List.length_take] at hj
  rw [List.getElem_take] at e
  have hi : i < L.length := (List.getElem?_eq_some_iff.mp h).1
  have e2 : L[i] = r := (List.getElem?_eq_some_iff.mp h).2
  rw [← e2] at e
  unfold List.Nodup at n
  rw [List.pairwise_map, List.pairwise_iff_getElem] at n
  exact n j i (by omega) hi (by omega) e
/-! models of two items: the rows, the rest -/
structure M8 (H : Hp) (q : Addr) (rr : List MRow) (rt : Option Str) : Prop where
  at_ : ∃ lr, H q = some (.lst [.ref lr, rvO rt]) ∧ H lr = some (.lst (rr.map fun r => V.ref r.1))
  rows : ∀ r ∈ rr, rowAt H r
theorem M8.nd {H H' : Hp} {q : Addr} {rr : List MRow} {rt : Option Str} (s : ND H H') (h : M8 H q rr rt) : M8 H' q rr rt := by
  obtain ⟨⟨lr, h1, h2⟩, h3⟩ := h
  exact ⟨⟨lr, s _ _ h1 rfl, s _ _ h2 rfl⟩, fun r hr => ⟨s _ _ (h3 r hr).1 rfl, s _ _ (h3 r hr).2 rfl⟩⟩
theorem M8.mono {H H' : Hp} {q : Addr} {rr : List MRow} {rt : Option Str} (s : Same H H') (h : M8 H q rr rt) : M8 H' q rr rt := h.nd (.of s)
def namesM (rr : List MRow) (rt : Option Str) : List Str := rr.map (·.2.1) ++ rt.toList
structure G8 (rr : List MRow) (rt : Option Str) : Prop where
  ok : ∀ r ∈ rr, okS r.2.2.2 = true
  apart : rr.Pairwise fun a b => meetL a.2.2.2 b.2.2.2 = false
  nms : ∀ s ∈ namesM rr rt, nameS s = true
  nd : (namesM rr rt).Nodup
  len : (namesM rr rt).length ≤ 8
theorem M8.dp {K : PySem.W.Frag} {H : Hp} {q : Addr} {rr : List MRow} {rt : Option Str} (h : M8 H q rr rt) : True := trivial
def sp_lall : Sp := fun vs H Q _ => ∃ (q : Addr) (rr : List MRow) (rt : Option Str), vs = [.ref q] ∧ M8 H q rr rt ∧ rr.length ≤ 50 ∧ ∀ H' p, Same H H' → H p = none → H' p = some (.lst ((srtS (namesM rr rt)).map V.str)) → Q (.ref p) H'
/-! what is due: (1 a name, 2 a span, 3 an overlap, 4 taken, 5 too many, 6 no part) and the value -/
def wc8 : Nat → Str
  | 6 => "part"
  | n => wC n
def oddW : List V := [.str "table", .str "", .int 5, .str "A"]
def badW (w : V) : Bool := inV w oddW
def W8 (w : V) : Prop := (∃ s, w = .str s ∧ nameS s = true) ∨ w = .non ∨ w ∈ oddW
def oddP : List PyData := [.none, .int 5, .tuple [.int 5, .int 5], .list [.int 1, .int 2]]
def P8 (K : PySem.W.Frag) (H : Hp) (pv : V) (pd : PyData) : Prop := (∃ a sp, pv = .ref a ∧ H a = some (.tup (spV sp)) ∧ okS sp = true ∧ pd = spD sp) ∨ (VD K H pv (some pd) ∧ pd ∈ oddP)
theorem P8.nd {K : PySem.W.Frag} {H H' : Hp} {pv : V} {pd : PyData} (s : ND H H') (h : P8 K H pv pd) : P8 K H' pv pd := by
  rcases h with ⟨a, sp, h1, h2, h3⟩ | ⟨h1, h2⟩
  · exact .inl ⟨a, sp, h1, s _ _ h2 rfl, h3⟩
  · exact .inr ⟨h1.nd s, h2⟩
theorem P8.mono {K : PySem.W.Frag} {H H' : Hp} {pv : V} {pd : PyData} (s : Same H H') (h : P8 K H pv pd) : P8 K H' pv pd := h.nd (.of s)
theorem P8.vd {K : PySem.W.Frag} {H : Hp} {pv : V} {pd : PyData} (h : P8 K H pv pd) : VD K H pv (some pd) := by
  rcases h with ⟨a, sp, rfl, h2, h3, rfl⟩ | ⟨h1, h2⟩
  · exact vd_sp (SqT.of h2)
  · exact h1
def overM (rr : List MRow) (pd : PyData) : List Str := srtS ((rr.filter fun r => meetL r.2.2.2 (spOf pd)).map (·.2.1))
def dueR (way : Int) (rr : List MRow) (rt : Option Str) (w pv : V) (pd : PyData) : Option (Nat × V) :=
  if way = 0 then if badW w = true then some (1, w) else if spanO (some pd) = false then some (2, pv) else if inV w ((namesM rr rt).map V.str) = true then some (4, w) else match (overM rr pd).head? with
    | some y => some (3, .str y)
    | none => if (namesM rr rt).length = 8 then some (5, .int 8) else none
  else if way = 1 then if inV w ((namesM rr rt).map V.str) = false then some (6, w) else none
  else if badW w = true then some (1, w) else if inV w ((rr.map (·.2.1)).map V.str) = true then some (4, w) else if w ≠ .non ∧ rr.length = 8 then some (5, .int 8) else none
def strW : V → Str
  | .str s => s
  | _ => Str.empty
def nxR (way : Int) (rows : List Row) (w pv : V) (pd : PyData) : List Row := if way = 0 then rows ++ [(strW w, refA pv, spOf pd)] else if way = 1 then lessR rows (strW w) else rows
def nxT (way : Int) (rt : Option Str) (w : V) : Option Str := if way = 0 then rt else if way = 1 then (if w = rvO rt then none else rt) else match w with
  | .str s => some s
  | _ => none
/-- what is due stands at p -/
def D8 (H : Hp) (b : Addr) (r : Option (Nat × V)) (p : Addr) (rows : List Row) (rt : Option Str) : Prop := match r with
  | some (n, v) => H p = some (.lst [.str (wc8 n), v])
  | none => ∃ q rr, H p = some (.lst [.str "made", .ref q]) ∧ M8 (but H b) q rr rt ∧ rowsM rr = rows
def sp_ldue8 (K : PySem.W.Frag) : Sp := fun vs H Q _ => ∃ (way : Int) (b q : Addr) (w pv : V) (pd : PyData) (rr : List MRow) (rt : Option Str), vs = [.int way, .ref q, w, pv] ∧ (way = 0 ∨ way = 1 ∨ way = 2) ∧ (∃ o, H b = some o) ∧ M8 (but H b) q rr rt ∧ G8 rr rt ∧ W8 w ∧ (way < 2 → w ≠ .non) ∧ P8 K (but H b) pv pd ∧
  ∀ H' p, Same H H' → H p = none → D8 H' b (dueR way rr rt w pv pd) p (nxR way (rowsM rr) w pv pd) (nxT way rt w) → Q (.ref p) H'
theorem odd_in {K : PySem.W.Frag} {H : Hp} {pv : V} {pd : PyData} (h : P8 K H pv pd) : (oddP.any fun z => PyData.eqv z pd) = !spanO (some pd) := by
  rcases h with ⟨a, sp, h1, h2, h3, rfl⟩ | ⟨h1, h2⟩
  · have e : spanO (some (spD sp)) = true := (spanO_ok _).trans h3
    rw [e]
    obtain ⟨x, y⟩ := sp
    cases x <;> cases y <;> simp [oddP, spD, limD, PyData.eqv, PyData.eqvAll] at h3 ⊢
    intro e1 e2
    have := of_decide_eq_true h3
    omega
  · simp only [oddP, List.mem_cons, List.not_mem_nil, or_false] at h2
    rcases h2 with rfl | rfl | rfl | rfl <;> decide +kernel
theorem W8.flat {w : V} (h : W8 w) : flatV w = true := by
  rcases h with ⟨s, rfl, _⟩ | rfl | h
  · rfl
  · rfl
  · simp only [oddW, List.mem_cons, List.not_mem_nil, or_false] at h
    rcases h with rfl | rfl | rfl | rfl <;> rfl
theorem oddP_sh : SeqAt.shaped (.list oddP) = true := by decide +kernel
theorem badW_of {w : V} (h : w ∈ oddW) : badW w = true := by
  simp only [oddW, List.mem_cons, List.not_mem_nil, or_false] at h
  rcases h with rfl | rfl | rfl | rfl <;> decide +kernel
theorem flat_oddW : oddW.all flatV = true := by decide +kernel
theorem rr_len {rr : List MRow} {rt : Option Str} (h : (namesM rr rt).length ≤ 8) : rr.length ≤ 8 := by
  unfold namesM at h
  rw [List.length_append, List.length_map] at h
  omega
theorem rowsM_filter (rr : List MRow) (s : Str) : rowsM (rr.filter fun r => !decide (r.2.1 = s)) = lessR (rowsM rr) s := by
  unfold rowsM lessR
  rw [List.filter_map]
  rfl
theorem in_rows {s : Str} {ns : List Str} : inV (.str s) (ns.map V.str) = decide (s ∈ ns) := in_strs s ns
theorem inV_srt (w : V) (ns : List Str) : inV w ((srtS ns).map V.str) = inV w (ns.map V.str) := by
  unfold inV
  rw [Bool.eq_iff_iff, List.any_eq_true, List.any_eq_true]
  constructor
  · rintro ⟨z, hz, e⟩
    obtain ⟨t, ht, rfl⟩ := List.mem_map.mp hz
    exact ⟨_, List.mem_map.mpr ⟨t, srt_mem.mp ht, rfl⟩, e⟩
  · rintro ⟨z, hz, e⟩
    obtain ⟨t, ht, rfl⟩ := List.mem_map.mp hz
    exact ⟨_, List.mem_map.mpr ⟨t, srt_mem.mpr ht, rfl⟩, e⟩
theorem dueR0 (rr : List MRow) (rt : Option Str) (w pv : V) (pd : PyData) : dueR 0 rr rt w pv pd = if badW w = true then some (1, w) else if spanO (some pd) = false then some (2, pv) else if inV w ((namesM rr rt).map V.str) = true then some (4, w) else match (overM rr pd).head? with
    | some y => some (3, .str y)
    | none => if (namesM rr rt).length = 8 then some (5, .int 8) else none := by
  unfold dueR
  rw [if_pos rfl]
theorem dueR1 (rr : List MRow) (rt : Option Str) (w pv : V) (pd : PyData) : dueR 1 rr rt w pv pd = if inV w ((namesM rr rt).map V.str) = false then some (6, w) else none := by
  unfold dueR
  rw [if_neg (by decide), if_pos rfl]
theorem dueR2 (rr : List MRow) (rt : Option Str) (w pv : V) (pd : PyData) : dueR 2 rr rt w pv pd = if badW w = true then some (1, w) else if inV w ((rr.map (·.2.1)).map V.str) = true then some (4, w) else if w ≠ .non ∧ rr.length = 8 then some (5, .int 8) else none := by
  unfold dueR
  rw [if_neg (by decide), if_neg (by decide)]
theorem W8.str {w : V} (h : W8 w) (h1 : ¬ badW w = true) (h2 : w ≠ .non) : ∃ s, w = .str s ∧ nameS s = true := by
  rcases h with h | h | h
  · exact h
  · exact absurd h h2
  · exact absurd (badW_of h) h1
theorem P8.sp {K : PySem.W.Frag} {H : Hp} {pv : V} {pd : PyData} (h : P8 K H pv pd) (e : spanO (some pd) = true) : ∃ a sp, pv = .ref a ∧ H a = some (.tup (spV sp)) ∧ okS sp = true ∧ pd = spD sp := by
  rcases h with h | ⟨_, h⟩
  · exact h
  · simp only [oddP, List.mem_cons, List.not_mem_nil, or_false] at h
    rcases h with rfl | rfl | rfl | rfl <;> exact absurd e (by decide +kernel)
theorem rowsM_snoc (rr : List MRow) (r : MRow) : rowsM (rr ++ [r]) = rowsM rr ++ [(r.2.1, r.2.2.1, r.2.2.2)] := by
  unfold rowsM
  rw [List.map_append]
  rfl
theorem rowAt.but {H : Hp} {b : Addr} {r : MRow} (h1 : r.1 ≠ b) (h2 : r.2.2.1 ≠ b) (h : rowAt H r) : rowAt (but H b) r := ⟨by rw [but_ne h1]; exact h.1, by rw [but_ne h2]; exact h.2⟩
/-- what is told stands at p -/
def T8 (K : PySem.W.Frag) (C : Addr) (H0 H : Hp) (r : Option (Nat × V)) (p : Addr) (rows : List Row) (rt : Option Str) : Prop := match r with
  | some (n, v) => H p = some (.lst [.str (wc8 n), v])
  | none => ∃ x rs, H p = some (.lst [.str "made", .ref x]) ∧ CatNew K C H0 H x rs rt ∧ rs.Perm rows
def sp_ltold8 (K : PySem.W.Frag) (C P : Addr) : Sp := fun vs H Q _ => ∃ (way : Int) (x : Addr) (w pv : V) (pd : PyData) (rr : List MRow) (rt : Option Str) (rs : List Row), vs = [.int way, .ref x, w, pv] ∧ (way = 0 ∨ way = 1 ∨ way = 2) ∧ CatAt K C H x rs rt ∧ rs.Perm (rowsM rr) ∧ G8 rr rt ∧ W8 w ∧ (way < 2 → w ≠ .non) ∧ P8 K H pv pd ∧ LamX.TabS H P lamQ ∧
  ∀ H' p, EX [] H H' → LamX.TabS H' P lamQ → T8 K C H H' (dueR way rr rt w pv pd) p (nxR way (rowsM rr) w pv pd) (nxT way rt w) → Q (.ref p) H'
theorem lkWP (d : Addr) (rv : V) (l p : Addr) : (fsC d rv l p).lookup ("with_part" : Str) = none := by simp [fsC, List.lookup, sb "with_part" "_spans", sb "with_part" "_rest", sb "with_part" "_names", sb "with_part" "_stretches"]
theorem lkWO (d : Addr) (rv : V) (l p : Addr) : (fsC d rv l p).lookup ("without_part" : Str) = none := by simp [fsC, List.lookup, sb "without_part" "_spans", sb "without_part" "_rest", sb "without_part" "_names", sb "without_part" "_stretches"]
theorem lkWR (d : Addr) (rv : V) (l p : Addr) : (fsC d rv l p).lookup ("with_rest" : Str) = none := by simp [fsC, List.lookup, sb "with_rest" "_spans", sb "with_rest" "_rest", sb "with_rest" "_names", sb "with_rest" "_stretches"]
theorem meetL_comm (s t : Span) : meetL s t = meetL t s := Bool.and_comm _ _
def wdD : V → PyData
  | .str s => .str s
  | .int i => .int i
  | _ => .none
theorem W8.vd {K : PySem.W.Frag} {H : Hp} {w : V} (h : W8 w) : VD K H w (some (wdD w)) := by
  rcases h with ⟨s, rfl, hs⟩ | rfl | h
  · exact vd_key (k := .inr s) ⟨by have := nameC_len hs; omega, nameC_ok hs⟩
  · exact .dat .non (by decide) fun s e => by cases e
  · simp only [oddW, List.mem_cons, List.not_mem_nil, or_false] at h
    rcases h with rfl | rfl | rfl | rfl
    · exact vd_key (k := .inr "table") ⟨by decide +kernel, by decide +kernel⟩
    · exact vd_key (k := .inr "") ⟨by decide +kernel, by decide +kernel⟩
    · exact vd_key (k := .inl 5) trivial
    · exact vd_key (k := .inr "A") ⟨by decide +kernel, by decide +kernel⟩
theorem nameO_badW {w : V} (h : W8 w) (hn : w ≠ .non) : nameO (some (wdD w)) = !badW w := by
  rcases h with ⟨s, rfl, hs⟩ | rfl | h
  · have e : nameO (some (wdD (.str s))) = true := hs
    rw [e]
    cases eb : badW (.str s) with
    | false => rfl
    | true =>
      obtain ⟨z, hz, e2⟩ := List.any_eq_true.mp eb
      simp only [oddW, List.mem_cons, List.not_mem_nil, or_false] at hz
      rcases hz with rfl | rfl | rfl | rfl
      · have e2 : (("table" : Str) == s) = true := e2
        rw [← eq_of_beq e2] at hs
        exact absurd hs (by decide +kernel)
      · have e2 : (("" : Str) == s) = true := e2
        rw [← eq_of_beq e2] at hs
        exact absurd hs (by decide +kernel)
      · cases e2
      · have e2 : (("A" : Str) == s) = true := e2
        rw [← eq_of_beq e2] at hs
        exact absurd hs (by decide +kernel)
  · exact absurd rfl hn
  · rw [badW_of h]
    simp only [oddW, List.mem_cons, List.not_mem_nil, or_false] at h
    rcases h with rfl | rfl | rfl | rfl <;> decide +kernel
theorem ovl_apart {rs : List Row} (hnd : (rs.map (·.1)).Nodup) (hok : ∀ r ∈ rs, okS r.2.2 = true) (ha : rs.Pairwise fun a b => meetL a.2.2 b.2.2 = false) : ovl rs = none := by
  have hp := sortR_perm hnd
  refine ovlR_none _ _ (fun a ha => (List.not_mem_nil ha).elim) ?_
  have h2 : (sortR rs).Pairwise fun a b => meetL a.2.2 b.2.2 = false := (hp.pairwise_iff fun {x y} h => by rw [meetL_comm]; exact h).mpr ha
  exact h2.imp_of_mem fun {a b} ha hb h => by rw [← meetL_eq (hok a (hp.mem_iff.mp ha)) (hok b (hp.mem_iff.mp hb))]; exact h
theorem apart_perm {rs rows : List Row} (hp : rs.Perm rows) (h : rows.Pairwise fun a b => meetL a.2.2 b.2.2 = false) : rs.Pairwise fun a b => meetL a.2.2 b.2.2 = false :=
  (hp.pairwise_iff fun {x y} h => by rw [meetL_comm]; exact h).mpr h
theorem G8.apartM {rr : List MRow} {rt : Option Str} (G : G8 rr rt) : (rowsM rr).Pairwise fun a b => meetL a.2.2 b.2.2 = false := by
  unfold rowsM
  rw [List.pairwise_map]
  exact G.apart
theorem G8.okM {rr : List MRow} {rt : Option Str} (G : G8 rr rt) : ∀ r ∈ rowsM rr, okS r.2.2 = true := rowsM_ok G.ok
theorem G8.ndM {rr : List MRow} {rt : Option Str} (G : G8 rr rt) : ((rowsM rr).map (·.1)).Nodup := by
  rw [rowsM_names]
  exact (List.nodup_append.mp G.nd).1
theorem in_perm {w : V} {ns ms : List Str} (h : ns.Perm ms) : inV w (ns.map V.str) = inV w (ms.map V.str) := by
  unfold inV
  rw [Bool.eq_iff_iff, List.any_eq_true, List.any_eq_true]
  constructor
  · rintro ⟨z, hz, e⟩
    exact ⟨z, (h.map _).mem_iff.mp hz, e⟩
  · rintro ⟨z, hz, e⟩
    exact ⟨z, (h.map _).mem_iff.mpr hz, e⟩
theorem nms_perm {rs : List Row} {rr : List MRow} {rt : Option Str} (hp : rs.Perm (rowsM rr)) : (rs.map (·.1) ++ rt.toList).Perm (namesM rr rt) := by
  unfold namesM
  rw [← rowsM_names]
  exact (hp.map _).append_right _
theorem nmsC_M {rs : List Row} {rr : List MRow} {rt : Option Str} (hp : rs.Perm (rowsM rr)) : nmsC rs rt = srtS (namesM rr rt) := srt_perm (nms_perm hp)
theorem over_find {rs : List Row} {rr : List MRow} {sp : Span} (hp : rs.Perm (rowsM rr)) (hnd : (rs.map (·.1)).Nodup) (hok : ∀ r ∈ rs, okS r.2.2 = true) (hs : okS sp = true) : ((sortR rs).find? fun r => meetB r.2.2 sp).map (·.1) = (overM rr (spD sp)).head? := by
  have h1 : ((sortR rs).find? fun r => meetB r.2.2 sp) = (sortR rs).find? fun r => meetL r.2.2 sp := by
    have : ∀ {l : List Row}, (∀ r ∈ l, okS r.2.2 = true) → (l.find? fun r => meetB r.2.2 sp) = l.find? fun r => meetL r.2.2 sp := by
      intro l
      induction l with
      | nil => intro _; rfl
      | cons a t ih =>
        intro h
        rw [List.find?_cons, List.find?_cons, meetL_eq (h a List.mem_cons_self) hs, ih fun r hr => h r (List.mem_cons_of_mem _ hr)]
    exact this fun r hr => hok r (sortR_mem hr)
  have h2 : ((sortR rs).filter fun r => meetL r.2.2 sp).map (·.1) = overM rr (spD sp) := by
    unfold overM
    rw [spOf_spD]
    refine List.Perm.eq_of_pairwise (fun a b _ _ => leS_anti) ?_ (srt_pw _) (List.Perm.trans ?_ (List.mergeSort_perm _ leS).symm)
    · have : (((sortR rs).filter fun r => meetL r.2.2 sp).map (·.1)).Sublist ((sortR rs).map (·.1)) := List.filter_sublist.map _
      rw [sortR_names] at this
      exact (srt_pw _).sublist this
    · have e : (rr.filter fun r => meetL r.2.2.2 sp).map (·.2.1) = ((rowsM rr).filter fun r => meetL r.2.2 sp).map (·.1) := by
        unfold rowsM
        rw [List.filter_map, List.map_map]
        rfl
      rw [e]
      exact (((sortR_perm hnd).trans hp).filter _).map _
  rw [h1, ← h2, List.head?_map, List.head?_filter]
theorem G8.rest {rr : List MRow} {rt : Option Str} (G : G8 rr rt) : ∀ s, rt = some s → nameS s = true ∧ s ∉ rr.map (·.2.1) := fun s e => by
  subst e
  refine ⟨G.nms s (List.mem_append_right _ List.mem_cons_self), fun h => ?_⟩
  exact (List.nodup_append.mp G.nd).2.2 s h s List.mem_cons_self rfl
theorem restR_rt {ns : List Str} {rt : Option Str} (h : ∀ s, rt = some s → nameS s = true ∧ s ∉ ns) : restR ns (rvO rt) (some (rtD rt)) = if 8 < ns.length + rt.toList.length then some (5, .int 8) else none := by
  unfold restR
  cases rt with
  | none => rfl
  | some s =>
    obtain ⟨h1, h2⟩ := h s rfl
    have e1 : nonO (some (rtD (some s))) = false := rfl
    have e2 : nameO (some (rtD (some s))) = true := h1
    have e3 : inNames ns (some (rtD (some s))) = false := decide_eq_false h2
    rw [e1, if_neg Bool.false_ne_true, e2, if_neg (by decide), e3, if_neg Bool.false_ne_true]
    rfl
theorem due0 {rs : List Row} {rr : List MRow} {rt : Option Str} {w pv : V} {pd : PyData} {K : PySem.W.Frag} {H : Hp} (hp : rs.Perm (rowsM rr)) (G : G8 rr rt) (hw : W8 w) (hn : w ≠ .non) (hv : P8 K H pv pd) :
    dueR 0 rr rt w pv pd = match wpR rs rt w pv (wdD w) pd with
      | some q => some q
      | none => if (namesM rr rt).length = 8 then some (5, .int 8) else none := by
  have hnd : (rs.map (·.1)).Nodup := (hp.map _).nodup_iff.mpr G.ndM
  have hok : ∀ r ∈ rs, okS r.2.2 = true := fun r hr => G.okM r (hp.mem_iff.mp hr)
  rw [dueR0]
  unfold wpR
  have hb := nameO_badW hw hn
  cases e1 : badW w with
  | true =>
    have hb : nameO (some (wdD w)) = false := by rw [hb, e1]; rfl
    rw [if_pos rfl, if_pos hb]
  | false =>
    have n1 : ¬ nameO (some (wdD w)) = false := by rw [hb, e1]; decide
    rw [if_neg Bool.false_ne_true, if_neg n1]
    cases e2 : spanO (some pd) with
    | false => rw [if_pos rfl, if_pos rfl]
    | true =>
      have tf : ¬ true = false := by decide
      rw [if_neg tf, if_neg tf]
      have e3 : inV w ((nmsC rs rt).map V.str) = inV w ((namesM rr rt).map V.str) := by
        rw [nmsC_M hp, inV_srt]
      rw [e3]
      cases e4 : inV w ((namesM rr rt).map V.str) with
      | true => rw [if_pos rfl, if_pos rfl]
      | false =>
        rw [if_neg Bool.false_ne_true, if_neg Bool.false_ne_true]
        obtain ⟨a, sp, rfl, _, hs, rfl⟩ := hv.sp e2
        rw [← over_find hp hnd hok hs, spOf_spD]
        cases (sortR rs).find? fun r => meetB r.2.2 sp <;> rfl
theorem wpR_none {rs : List Row} {rt : Option Str} {w pv : V} {nd pd : PyData} (h : wpR rs rt w pv nd pd = none) : spanO (some pd) = true ∧ inV w ((nmsC rs rt).map V.str) = false ∧ (sortR rs).find? (fun r => meetB r.2.2 (spOf pd)) = none := by
  unfold wpR at h
  split at h
  · cases h
  · split at h
    · cases h
    · rename_i e2
      split at h
      · cases h
      · rename_i e3
        split at h
        · cases h
        · rename_i e4
          exact ⟨by simpa using e2, by simpa using e3, e4⟩
theorem cat0 {rs : List Row} {rr : List MRow} {rt : Option Str} {s : Str} {a : Addr} {sp : Span} {nd : PyData} (hp : rs.Perm (rowsM rr)) (G : G8 rr rt) (h : wpR rs rt (.str s) (.ref a) nd (spD sp) = none) :
    catR (sortR rs ++ [(s, a, sp)]) (rvO rt) (some (rtD rt)) = if (namesM rr rt).length = 8 then some (5, .int 8) else none := by
  obtain ⟨h1, h2, h3⟩ := wpR_none h
  have hs : okS sp = true := (spanO_ok _).symm.trans h1
  rw [spOf_spD] at h3
  have hnd : (rs.map (·.1)).Nodup := (hp.map _).nodup_iff.mpr G.ndM
  have hok : ∀ r ∈ rs, okS r.2.2 = true := fun r hr => G.okM r (hp.mem_iff.mp hr)
  have hsn : s ∉ namesM rr rt := fun z => by
    rw [nmsC_M hp, inV_srt, in_rows, decide_eq_true z] at h2
    cases h2
  have hsr : s ∉ (sortR rs).map (·.1) := fun z => hsn (List.mem_append_left _ (by
    rw [sortR_names] at z
    rw [← rowsM_names]
    exact (hp.map _).mem_iff.mp (srt_mem.mp z)))
  have hnd2 : ((sortR rs ++ [(s, a, sp)]).map (·.1)).Nodup := by
    rw [List.map_append]
    refine List.nodup_append.mpr ⟨by rw [sortR_names]; exact srt_nodup hnd, List.nodup_cons.mpr ⟨List.not_mem_nil, List.nodup_nil⟩, fun u hu w hw z => hsr ?_⟩
    have hw : w = s := List.mem_singleton.mp hw
    rw [← hw, ← z]
    exact hu
  have hap : (sortR rs ++ [(s, a, sp)]).Pairwise fun a b => meetL a.2.2 b.2.2 = false := by
    refine List.pairwise_append.mpr ⟨apart_perm ((sortR_perm hnd).trans hp) G.apartM, List.pairwise_singleton _ _, fun u hu w hw => ?_⟩
    rw [List.mem_singleton.mp hw]
    have := List.find?_eq_none.mp h3 u hu
    rw [meetL_eq (hok u (sortR_mem hu)) hs]
    simpa using this
  rw [catR_go (ovl_apart hnd2 (fun r hr => by
    rcases List.mem_append.mp hr with hr | hr
    · exact hok r (sortR_mem hr)
    · rw [List.mem_singleton.mp hr]; exact hs) hap), restR_rt fun z e => ?_]
  · have e1 : ((sortR rs ++ [(s, a, sp)]).map (·.1)).length + rt.toList.length = (namesM rr rt).length + 1 := by
      unfold namesM
      rw [List.length_map, List.length_append, sortR_len, hp.length_eq, List.length_append, List.length_map, List.length_singleton]
      unfold rowsM
      rw [List.length_map]
      omega
    rw [e1]
    have := G.len
    by_cases e2 : (namesM rr rt).length = 8
    · rw [if_pos e2, if_pos (by omega)]
    · rw [if_neg e2, if_neg (by omega)]
  · obtain ⟨z1, z2⟩ := G.rest z e
    refine ⟨z1, fun m => ?_⟩
    rw [List.map_append] at m
    rcases List.mem_append.mp m with m | m
    · rw [sortR_names] at m
      have := (hp.map _).mem_iff.mp (srt_mem.mp m)
      rw [rowsM_names] at this
      exact z2 this
    · have m : z = s := List.mem_singleton.mp m
      exact hsn (List.mem_append_right _ (by rw [e, ← m]; exact List.mem_cons_self))
/-- rows of a model, some dropped, make a catalog -/
theorem cat1 {L : List Row} {rs : List Row} {rr : List MRow} {rt rt' : Option Str} (hp : rs.Perm (rowsM rr)) (G : G8 rr rt) (hL : L.Sublist (sortR rs)) (hr : rt' = none ∨ rt' = rt) : catR L (rvO rt') (some (rtD rt')) = none := by
  have hnd : (rs.map (·.1)).Nodup := (hp.map _).nodup_iff.mpr G.ndM
  have hok : ∀ r ∈ rs, okS r.2.2 = true := fun r hr => G.okM r (hp.mem_iff.mp hr)
  have hsn : ((sortR rs).map (·.1)).Nodup := by
    rw [sortR_names]
    exact srt_nodup hnd
  have hl := hL.length_le
  have hl8 := G.len
  have hll : rs.length = rr.length := by
    rw [hp.length_eq]
    unfold rowsM
    rw [List.length_map]
  rw [catR_go (ovl_apart (nodup_sub hL hsn) (fun r hr => hok r (sortR_mem (hL.subset hr))) ((apart_perm ((sortR_perm hnd).trans hp) G.apartM).sublist hL)), restR_rt fun z e => ?_]
  · refine if_neg ?_
    rw [List.length_map]
    rw [sortR_len] at hl
    unfold namesM at hl8
    rw [List.length_append, List.length_map] at hl8
    rcases hr with rfl | rfl
    · show ¬ 8 < L.length + 0
      omega
    · omega
  · rcases hr with rfl | rfl
    · cases e
    · obtain ⟨z1, z2⟩ := G.rest z e
      refine ⟨z1, fun m => z2 ?_⟩
      have : z ∈ (sortR rs).map (·.1) := (hL.map _).subset m
      rw [sortR_names] at this
      rw [← rowsM_names]
      exact (hp.map _).mem_iff.mp (srt_mem.mp this)
theorem cat2 {rs : List Row} {rr : List MRow} {rt : Option Str} {w pv : V} {pd : PyData} (hp : rs.Perm (rowsM rr)) (G : G8 rr rt) (hw : W8 w) : catR (sortR rs) w (some (wdD w)) = dueR 2 rr rt w pv pd := by
  have hnd : (rs.map (·.1)).Nodup := (hp.map _).nodup_iff.mpr G.ndM
  have hok : ∀ r ∈ rs, okS r.2.2 = true := fun r hr => G.okM r (hp.mem_iff.mp hr)
  have hsn : ((sortR rs).map (·.1)).Nodup := by
    rw [sortR_names]
    exact srt_nodup hnd
  have hl8 := rr_len G.len
  have hll : ((sortR rs).map (·.1)).length = rr.length := by
    rw [List.length_map, sortR_len, hp.length_eq]
    unfold rowsM
    rw [List.length_map]
  have hmem : ∀ s, s ∈ (sortR rs).map (·.1) ↔ s ∈ rr.map (·.2.1) := fun s => by
    rw [sortR_names, ← rowsM_names]
    exact srt_mem.trans (hp.map _).mem_iff
  rw [catR_go (ovl_apart hsn (fun r hr => hok r (sortR_mem hr)) (apart_perm ((sortR_perm hnd).trans hp) G.apartM)), dueR2]
  unfold restR
  by_cases hn : w = .non
  · subst hn
    have e1 : nonO (some (wdD .non)) = true := rfl
    have e2 : ¬ badW .non = true := by decide +kernel
    have e3 : ¬ inV .non ((rr.map (·.2.1)).map V.str) = true := fun z => by
      obtain ⟨s, e, _⟩ := in_flatS z
      cases e
    rw [e1, if_pos rfl, if_neg (by omega), if_neg e2, if_neg e3, if_neg fun z => z.1 rfl]
  · have hb := nameO_badW hw hn
    have e1 : nonO (some (wdD w)) = false := by
      rcases hw with ⟨s, rfl, _⟩ | rfl | h
      · rfl
      · exact absurd rfl hn
      · simp only [oddW, List.mem_cons, List.not_mem_nil, or_false] at h
        rcases h with rfl | rfl | rfl | rfl <;> rfl
    rw [e1, if_neg Bool.false_ne_true]
    cases e2 : badW w with
    | true =>
      have hb : nameO (some (wdD w)) = false := by rw [hb, e2]; rfl
      rw [hb, if_pos rfl, if_pos rfl]
    | false =>
      have hb : nameO (some (wdD w)) = true := by rw [hb, e2]; rfl
      have n2 : ¬ badW w = true := by rw [e2]; exact Bool.false_ne_true
      have tf : ¬ true = false := by decide
      rw [hb, if_neg tf, if_neg Bool.false_ne_true]
      obtain ⟨s, rfl, hs⟩ := hw.str n2 hn
      have e3 : inNames ((sortR rs).map (·.1)) (some (wdD (.str s))) = inV (.str s) ((rr.map (·.2.1)).map V.str) := by
        rw [in_rows]
        exact decide_eq_decide.mpr (hmem s)
      rw [e3]
      cases e4 : inV (.str s) ((rr.map (·.2.1)).map V.str) with
      | true => rw [if_pos rfl, if_pos rfl]
      | false =>
        rw [if_neg Bool.false_ne_true, if_neg Bool.false_ne_true, hll]
        by_cases e5 : rr.length = 8
        · rw [if_pos (by omega), if_pos ⟨hn, e5⟩]
        · rw [if_neg (by omega), if_neg fun z => e5 z.2]
theorem dueR_le0 {rr : List MRow} {rt : Option Str} {w pv : V} {pd : PyData} {way : Int} {n : Nat} {v : V} (h : dueR way rr rt w pv pd = some (n, v)) : n = 1 ∨ n = 2 ∨ n = 3 ∨ n = 4 ∨ n = 5 ∨ n = 6 := by
  unfold dueR at h
  repeat' split at h
  all_goals
    first
      | (cases h; done)
      | (have e := congrArg (fun o => o.map Prod.fst) h
         simp at e
         omega)
def toldHs {K : PySem.W.Frag} {mg : Str → Option Value} {base : Heap} (T : Txt K mg base) : List (Value × (Addr → Value → Option Addr → TS)) :=
  [(Value.ref T.C_InvalidName, fun a cls d => tRet (tLst (tCons (tC (V.str "name")) (tCons (tXf a cls d T.C_InvalidName "value" (tVar 4)) tNil)))), (Value.ref T.C_InvalidSpan, fun a cls d => tRet (tLst (tCons (tC (V.str "span")) (tCons (tXf a cls d T.C_InvalidSpan "value" (tVar 4)) tNil)))), (Value.ref T.C_NameTaken, fun a cls d => tRet (tLst (tCons (tC (V.str "taken")) (tCons (tXf a cls d T.C_NameTaken "name" (tVar 4)) tNil)))),
  (Value.ref T.C_Overlap, fun a cls d => tRet (tLst (tCons (tC (V.str "overlap")) (tCons (tXf a cls d T.C_Overlap "name" (tVar 4)) tNil)))), (Value.ref T.C_UnknownPart, fun a cls d => tRet (tLst (tCons (tC (V.str "part")) (tCons (tXf a cls d T.C_UnknownPart "name" (tVar 4)) tNil)))), (Value.ref T.C_TooMany, fun a cls d => tRet (tLst (tCons (tC (V.str "many")) (tCons (tXf a cls d T.C_TooMany "bound" (tVar 4)) tNil))))]
theorem dueR_n6 {rr : List MRow} {rt : Option Str} {w pv : V} {pd : PyData} {way : Int} {q : Nat × V} (hw : way ≠ 1) (h : dueR way rr rt w pv pd = some q) : q.1 ≠ 6 := by
  unfold dueR at h
  rw [if_neg hw] at h
  repeat' split at h
  all_goals
    first
      | (cases h; done)
      | (cases h; simp)
theorem nxT2 (rt : Option Str) (w : V) : rtO (some (wdD w)) = nxT 2 rt w := by
  unfold nxT
  rw [if_neg (by decide), if_neg (by decide)]
  cases w <;> rfl
def sp_lspan8 (K : PySem.W.Frag) : Sp := fun vs H Q _ => ∃ (H0 : Hp) (p : Addr) (n : Nat) (q : Addr) (rr : List MRow) (rt : Option Str), vs = [.ref p, .ref q] ∧ BoxIn H0 H p n ∧ M8 H0 q rr rt ∧ rr.length ≤ 8 ∧ n + 4 < 1000000 ∧
  ∀ (H1 H' : Hp) (v : V) (pd : PyData), Same H0 H1 → BoxIn H1 H' p (n + 2) → P8 K H1 v pd → Q v H'
def limsS (s : Span) : List Int := [s.1, s.2].filterMap id
theorem limsS_V (s : Span) : ((spV s).filter fun v => !decide (v = V.non)) = (limsS s).map V.int := by
  obtain ⟨a, b⟩ := s
  cases a <;> cases b <;> rfl
theorem limsS_len (s : Span) : (limsS s).length ≤ 2 := List.length_filterMap_le _ _
/-! the state behind a turn -/
theorem G8.of {rr : List MRow} {rt : Option Str} (h1 : ∀ r ∈ rowsM rr, okS r.2.2 = true) (h2 : (rowsM rr).Pairwise fun a b => meetL a.2.2 b.2.2 = false) (h3 : ∀ s ∈ (rowsM rr).map (·.1) ++ rt.toList, nameS s = true) (h4 : ((rowsM rr).map (·.1) ++ rt.toList).Nodup) (h5 : ((rowsM rr).map (·.1) ++ rt.toList).length ≤ 8) : G8 rr rt := by
  rw [rowsM_names] at h3 h4 h5
  refine ⟨fun r hr => h1 _ (List.mem_map.mpr ⟨r, hr, rfl⟩), ?_, h3, h4, h5⟩
  unfold rowsM at h2
  rw [List.pairwise_map] at h2
  exact h2
theorem G8.next {K : PySem.W.Frag} {H : Hp} {way : Int} {rr rr' : List MRow} {rt : Option Str} {w pv : V} {pd : PyData} (G : G8 rr rt) (hway : way = 0 ∨ way = 1 ∨ way = 2) (hw : W8 w) (hn : way < 2 → w ≠ .non) (hp : P8 K H pv pd) (hd : dueR way rr rt w pv pd = none) (e : rowsM rr' = nxR way (rowsM rr) w pv pd) : G8 rr' (nxT way rt w) := by
  have gnm := G.nms
  have gnd := G.nd
  have gln := G.len
  have enm : (rowsM rr).map (·.1) ++ rt.toList = namesM rr rt := by
    rw [rowsM_names]
    rfl
  rcases hway with rfl | rfl | rfl
  · rw [dueR0] at hd
    split at hd
    · cases hd
    · rename_i n1
      split at hd
      · cases hd
      · rename_i n2
        split at hd
        · cases hd
        · rename_i n3
          split at hd
          · cases hd
          · rename_i e4
            split at hd
            · cases hd
            · rename_i n5
              obtain ⟨s, rfl, hs⟩ := hw.str n1 (hn (by decide))
              obtain ⟨a, sp, rfl, _, ok, rfl⟩ := hp.sp (by simpa using n2)
              have e : rowsM rr' = rowsM rr ++ [(s, a, sp)] := by
                rw [e]
                show rowsM rr ++ [(s, a, spOf (spD sp))] = _
                rw [spOf_spD]
              have hsn : s ∉ namesM rr rt := fun z => n3 (by rw [in_rows]; exact decide_eq_true z)
              have perm : ((rowsM rr').map (·.1) ++ rt.toList).Perm (s :: namesM rr rt) := by
                rw [e, List.map_append, List.append_assoc, ← enm]
                exact List.perm_middle
              show G8 rr' rt
              refine G8.of (fun r hr => ?_) ?_ (fun z hz => ?_) ?_ ?_
              · rw [e] at hr
                rcases List.mem_append.mp hr with hr | hr
                · exact G.okM r hr
                · rw [List.mem_singleton.mp hr]; exact ok
              · rw [e]
                refine List.pairwise_append.mpr ⟨G.apartM, List.pairwise_singleton _ _, fun u hu w hw => ?_⟩
                rw [List.mem_singleton.mp hw]
                obtain ⟨m, hm, rfl⟩ := List.mem_map.mp hu
                cases q : meetL m.2.2.2 sp with
                | false => rfl
                | true =>
                  have : m.2.1 ∈ overM rr (spD sp) := by
                    unfold overM
                    rw [spOf_spD]
                    exact srt_mem.mpr (List.mem_map.mpr ⟨m, List.mem_filter.mpr ⟨hm, q⟩, rfl⟩)
                  rw [List.head?_eq_none_iff.mp e4] at this
                  cases this
              · rcases List.mem_cons.mp (perm.mem_iff.mp hz) with rfl | hz
                · exact hs
                · exact gnm z hz
              · exact perm.nodup_iff.mpr (List.nodup_cons.mpr ⟨hsn, gnd⟩)
              · rw [perm.length_eq, List.length_cons]
                omega
  · have e : rowsM rr' = lessR (rowsM rr) (strW w) := e
    have sub : (rowsM rr').Sublist (rowsM rr) := by rw [e]; exact lessR_sub
    have sub2 : ((rowsM rr').map (·.1) ++ (nxT 1 rt w).toList).Sublist (namesM rr rt) := by
      rw [← enm]
      refine (sub.map _).append ?_
      unfold nxT
      rw [if_neg (by decide), if_pos rfl]
      split
      · exact List.nil_sublist _
      · exact List.Sublist.refl _
    exact G8.of (fun r hr => G.okM r (sub.subset hr)) (G.apartM.sublist sub) (fun z hz => gnm z (sub2.subset hz)) (gnd.sublist sub2) (Nat.le_trans sub2.length_le gln)
  · have e : rowsM rr' = rowsM rr := e
    rw [dueR2] at hd
    split at hd
    · cases hd
    · rename_i n1
      split at hd
      · cases hd
      · rename_i n2
        split at hd
        · cases hd
        · rename_i n3
          have hl : (rowsM rr).length = rr.length := by unfold rowsM; rw [List.length_map]
          have hl8 := rr_len gln
          refine G8.of (by rw [e]; exact G.okM) (by rw [e]; exact G.apartM) ?_ ?_ ?_
          all_goals rw [e]
          · intro z hz
            rcases List.mem_append.mp hz with hz | hz
            · exact gnm z (by rw [← enm]; exact List.mem_append_left _ hz)
            · rcases hw with ⟨s, rfl, hs⟩ | rfl | h
              · have : z = s := List.mem_singleton.mp hz
                rw [this]; exact hs
              · cases hz
              · exact absurd (badW_of h) n1
          · have nd1 := G.ndM
            rcases hw with ⟨s, rfl, hs⟩ | rfl | h
            · refine List.nodup_append.mpr ⟨nd1, List.nodup_cons.mpr ⟨List.not_mem_nil, List.nodup_nil⟩, fun u hu w hw z => n2 ?_⟩
              have : w = s := List.mem_singleton.mp hw
              rw [in_rows, ← this, ← z]
              rw [rowsM_names] at hu
              exact decide_eq_true hu
            · show ((rowsM rr).map (fun r : Row => r.1) ++ []).Nodup
              rw [List.append_nil]
              exact nd1
            · exact absurd (badW_of h) n1
          · rw [List.length_append, List.length_map, hl]
            rcases hw with ⟨s, rfl, hs⟩ | rfl | h
            · have : rr.length ≠ 8 := fun z => n3 ⟨(by intro z; cases z), z⟩
              show rr.length + 1 ≤ 8
              omega
            · show rr.length + 0 ≤ 8
              omega
            · exact absurd (badW_of h) n1
theorem rowOf_perm {rs rs' : List Row} (hp : rs.Perm rs') (hnd : (rs'.map (·.1)).Nodup) {y : Str} (hy : y ∈ rs'.map (·.1)) : rowOf rs y = rowOf rs' y := by
  have hnd2 : (rs.map (·.1)).Nodup := (hp.map _).nodup_iff.mpr hnd
  obtain ⟨r, hr, rfl⟩ := List.mem_map.mp hy
  rw [rowOf_self hnd r hr, rowOf_self hnd2 r (hp.mem_iff.mpr hr)]
theorem sortR_eq {rs rs' : List Row} (hp : rs.Perm rs') (hnd : (rs'.map (·.1)).Nodup) : sortR rs = sortR rs' := by
  unfold sortR
  have e : srtS (rs.map (·.1)) = srtS (rs'.map (·.1)) := srt_perm (hp.map _)
  rw [e]
  exact List.map_congr_left fun y hy => rowOf_perm hp hnd (srt_mem.mp hy)
theorem findD_of : ∀ {l : List (Key × PyData)}, (l.map (·.1)).Nodup → ∀ p ∈ l, findD l p.1 = some p.2
  | x :: r, nd, p, hp => by
    have nd' := List.nodup_cons.mp (show (x.1 :: r.map (·.1)).Nodup from nd)
    rcases List.mem_cons.mp hp with rfl | hp
    · exact if_pos rfl
    · have ne : ¬ x.1 = p.1 := fun z => nd'.1 (by rw [z]; exact List.mem_map.mpr ⟨p, hp, rfl⟩)
      exact (if_neg ne).trans (findD_of nd'.2 p hp)
theorem ceq_true {rs rs' : List Row} {rt : Option Str} (hp : rs.Perm rs') (hnd : (rs'.map (·.1)).Nodup) : ceqB rs rs' rt rt = true := by
  unfold ceqB
  have e1 : sortD rs = sortD rs' := by
    unfold sortD
    rw [sortR_eq hp hnd]
  have e2 : entsEq (sortD rs') (sortD rs') = true := by
    unfold entsEq
    refine List.all_eq_true.mpr fun p hpm => ?_
    have nd : ((sortD rs').map (·.1)).Nodup := by
      unfold sortD
      rw [List.map_map]
      have h1 : ((sortR rs').map (·.1)).Nodup := by
        rw [sortR_names]
        exact srt_nodup hnd
      unfold List.Nodup at h1 ⊢
      rw [List.pairwise_map] at h1 ⊢
      exact h1.imp fun h e => h (Sum.inr.inj e)
    rw [findD_of nd p hpm]
    obtain ⟨r, hr, rfl⟩ := List.mem_map.mp hpm
    exact SeqAt.eqv_refl _ (shaped_iff.mp (shaped_sp _)).1
  rw [e1, e2, hp.length_eq]
  simp
def WhAt (H : Hp) (q : Addr) (left : List Str) : Prop := ∃ x y ll, H q = some (.lst [x, y, .ref ll]) ∧ H ll = some (.lst (left.map V.str))
theorem WhAt.mono {H H' : Hp} {q : Addr} {left : List Str} (s : Same H H') (h : WhAt H q left) : WhAt H' q left := by
  obtain ⟨x, y, ll, h1, h2⟩ := h
  exact ⟨x, y, ll, s _ _ h1, s _ _ h2⟩
/-- the state of a turn: what stands beside the box -/
structure St8 (K : PySem.W.Frag) (C P : Addr) (H : Hp) (p : Addr) (n : Nat) (a : Addr) (ns : List Int) (q : Addr) (left : List Str) (m : Addr) (rr : List MRow) (rt : Option Str) (x : Addr) (rs : List Row) : Prop where
  S : LS H p n P
  A : SqL K (nb H p) a (ns.map V.int)
  W : WhAt (nb H p) q left
  M : M8 (nb H p) m rr rt
  C : CatAt K C (nb H p) x rs rt
theorem St8.ex {K : PySem.W.Frag} {C P : Addr} {H H' : Hp} {p : Addr} {n n' : Nat} {a : Addr} {ns : List Int} {q : Addr} {left : List Str} {m : Addr} {rr : List MRow} {rt : Option Str} {x : Addr} {rs : List Row} (h : St8 K C P H p n a ns q left m rr rt x rs) (e : EX [p] H H') (S : LS H' p n' P) : St8 K C P H' p n' a ns q left m rr rt x rs :=
  have s := nb_ex e
  ⟨S, s.seq h.A, h.W.mono s, h.M.mono s, h.C.mono s⟩
theorem St8.keep {K : PySem.W.Frag} {C P : Addr} {H H' : Hp} {p : Addr} {n : Nat} {a : Addr} {ns : List Int} {q : Addr} {left : List Str} {m : Addr} {rr : List MRow} {rt : Option Str} {x : Addr} {rs : List Row} (h : St8 K C P H p n a ns q left m rr rt x rs) (s : Same H H') : St8 K C P H' p n a ns q left m rr rt x rs := h.ex (.same s) (h.S.keep s)
theorem St8.draw {K : PySem.W.Frag} {C P : Addr} {H H' : Hp} {p : Addr} {n n' : Nat} {a : Addr} {ns : List Int} {q : Addr} {left : List Str} {m : Addr} {rr : List MRow} {rt : Option Str} {x : Addr} {rs : List Row} (h : St8 K C P H p n a ns q left m rr rt x rs) (B : BoxIn (but H p) H' p n') : St8 K C P H' p n' a ns q left m rr rt x rs := h.ex (ex_of B) (h.S.after B)
theorem St8.mono {K : PySem.W.Frag} {C P : Addr} {H : Hp} {p : Addr} {n n' : Nat} {a : Addr} {ns : List Int} {q : Addr} {left : List Str} {m : Addr} {rr : List MRow} {rt : Option Str} {x : Addr} {rs : List Row} (h : St8 K C P H p n a ns q left m rr rt x rs) (e : n ≤ n') : St8 K C P H p n' a ns q left m rr rt x rs := ⟨h.S.mono e, h.A, h.W, h.M, h.C⟩
theorem nb_but (H : Hp) (p : Addr) : Same (nb H p) (but H p) := fun b o e => by
  obtain ⟨h1, h2, _⟩ := nb_some e
  rw [but_ne h1]
  exact h2
theorem nd_nbb (H : Hp) (p : Addr) : ND (but H p) (nb H p) := fun b o e z => by
  by_cases h : b = p
  · rw [h, but_same] at e
    cases e
  · rw [but_ne h] at e
    exact nb_of h e fun ps w => by
      rw [w] at z
      cases z
theorem but_in {H1 H' : Hp} {p : Addr} (s : Same H1 H') (h : H1 p = none) : Same H1 (but H' p) := fun b o e => by
  have : b ≠ p := fun z => by
    rw [z, h] at e
    cases e
  rw [but_ne this]
  exact s _ _ e
theorem wc8_made {way : Int} {rr : List MRow} {rt : Option Str} {w pv : V} {pd : PyData} {n : Nat} {v : V} (h : dueR way rr rt w pv pd = some (n, v)) : decide (V.str (wc8 n) = V.str "made") = false := by
  rcases dueR_le0 h with e | e | e | e | e | e <;> subst e <;> decide +kernel
theorem dueR_sure {K : PySem.W.Frag} {H : Hp} {way : Int} {rr : List MRow} {rt : Option Str} {w pv : V} {pd : PyData} {n : Nat} {v : V} (hw : W8 w) (hp : P8 K H pv pd) (h : dueR way rr rt w pv pd = some (n, v)) : sureV v = true := by
  have h1 : sureV w = true := (hw.vd (K := K) (H := H)).sure
  have h2 := hp.vd.sure
  unfold dueR at h
  repeat' split at h
  all_goals
    first
      | (cases h; done)
      | (cases h; first | exact h1 | exact h2 | rfl)
theorem D8.nd {H H' : Hp} {b : Addr} {r : Option (Nat × V)} {p : Addr} {rows : List Row} {rt : Option Str} (s : ND H H') (h : D8 H b r p rows rt) : D8 H' b r p rows rt := by
  unfold D8 at h ⊢
  split at h
  · exact s _ _ h rfl
  · obtain ⟨q, rr, h1, h2, h3⟩ := h
    exact ⟨q, rr, s _ _ h1 rfl, h2.nd (nd_but s), h3⟩
theorem catM {rr : List MRow} {rt : Option Str} (G : G8 rr rt) : catR (rowsM rr) (rvO rt) (some (rtD rt)) = none := by
  rw [catR_go (ovl_apart G.ndM G.okM G.apartM), restR_rt fun z e => by rw [rowsM_names]; exact G.rest z e]
  refine if_neg ?_
  have := G.len
  unfold namesM at this
  rw [List.length_append, List.length_map] at this
  unfold rowsM
  rw [List.length_map, List.length_map]
  omega
def odd5 : List V := [.non, .str "table", .str "", .int 5, .str "A"]
theorem odd5_cut {z : Int} (h0 : 0 ≤ z) (h5 : z < 5) : ∃ w, w ∈ odd5 ∧ cutV (cutV odd5 (some z) none) none (some 1) = [w] := by
  obtain ⟨k, rfl⟩ := Int.eq_ofNat_of_zero_le h0
  have hk : k < 5 := by omega
  rw [cut_dropV odd5 (i := k) (by show k ≤ 5; omega)]
  have h1 : (odd5.drop k).length = 5 - k := by rw [List.length_drop]; rfl
  rw [show (some (1 : Int)) = some ((1 : Nat) : Int) from rfl, cut_takeV _ (i := 1) (by omega)]
  have e : (odd5.drop k) = odd5[k]'(by show k < 5; omega) :: odd5.drop (k + 1) := List.drop_eq_getElem_cons (by show k < 5; omega)
  rw [e]
  exact ⟨_, List.getElem_mem _, rfl⟩
theorem W8.of5 {w : V} (h : w ∈ odd5) : W8 w := by
  simp only [odd5, List.mem_cons, List.not_mem_nil, or_false] at h
  rcases h with rfl | rfl | rfl | rfl | rfl
  · exact .inr (.inl rfl)
  · exact .inr (.inr (by simp [oddW]))
  · exact .inr (.inr (by simp [oddW]))
  · exact .inr (.inr (by simp [oddW]))
  · exact .inr (.inr (by simp [oddW]))
theorem zzz_ok : nameS "zzz" = true := by decide +kernel
/-- both tell the same -/
theorem told_due {K : PySem.W.Frag} {C : Addr} {H0 H : Hp} {b : Addr} {r : Option (Nat × V)} {t d : Addr} {rows : List Row} {rt : Option Str} (h1 : D8 H b r d rows rt) (h2 : T8 K C H0 H r t rows rt) :
    (∃ n v, r = some (n, v) ∧ H d = some (.lst [.str (wc8 n), v]) ∧ H t = some (.lst [.str (wc8 n), v])) ∨
    (r = none ∧ ∃ q rr x rs, H d = some (.lst [.str "made", .ref q]) ∧ H t = some (.lst [.str "made", .ref x]) ∧ M8 (but H b) q rr rt ∧ rowsM rr = rows ∧ CatNew K C H0 H x rs rt ∧ rs.Perm rows) := by
  cases r with
  | some q => exact .inl ⟨q.1, q.2, rfl, h1, h2⟩
  | none =>
    obtain ⟨q, rr, a1, a2, a3⟩ := h1
    obtain ⟨x, rs, b1, b2, b3⟩ := h2
    exact .inr ⟨rfl, q, rr, x, rs, a1, b1, a2, a3, b2, b3⟩
/-! ### keys given to parts: promises -/
def sp_crest (K : PySem.W.Frag) (C : Addr) : Sp := fun vs H Q _ => ∃ (x : Addr) (rs : List Row) (rt : Option Str), vs = [.ref x] ∧ CatAt K C H x rs rt ∧ Q (rvO rt) H
def sp_clen (K : PySem.W.Frag) (C : Addr) : Sp := fun vs H Q _ => ∃ (x : Addr) (rs : List Row) (rt : Option Str), vs = [.ref x] ∧ CatAt K C H x rs rt ∧ Q (.int (nmsC rs rt).length) H
def sp_chas6 (K : PySem.W.Frag) (C : Addr) : Sp := fun vs H Q _ => ∃ (x : Addr) (w : V) (o : Option PyData) (rs : List Row) (rt : Option Str), vs = [.ref x, w] ∧ VD K H w o ∧ CatAt K C H x rs rt ∧ (∀ s ∈ nmsC rs rt, nameS s = true) ∧ Q (.bl (inO (nmsC rs rt) o)) H
/-- what a name has -/
def getR (rs : List Row) (s : Str) : V := match rs.find? fun r => decide (r.1 = s) with
  | some r => .ref r.2.1
  | none => .non
theorem getR_val (rs : List Row) (s : Str) : (valV (rs.map rKV) (.inr s)).getD .non = getR rs s := by
  unfold getR
  induction rs with
  | nil => rfl
  | cons r t ih =>
    rw [List.map_cons, List.find?_cons]
    by_cases e : r.1 = s
    · rw [valV_pos (p := rKV r) (by rw [← e]; rfl), decide_eq_true e]
      rfl
    · rw [valV_neg (p := rKV r) (fun z => e (Sum.inr.inj z)), decide_eq_false e]
      exact ih
def sp_cspan (K : PySem.W.Frag) (C CU : Addr) : Sp := fun vs H Q E => ∃ (x : Addr) (w : V) (o : Option PyData) (rs : List Row) (rt : Option Str), vs = [.ref x, w] ∧ VD K H w o ∧ CatAt K C H x rs rt ∧ (∀ s ∈ nmsC rs rt, nameS s = true) ∧
  (inO (nmsC rs rt) o = false → Rz H E CU "name" w) ∧ ∀ s, o = some (.str s) → inO (nmsC rs rt) o = true → ∀ H', Same H H' → Q (getR (sortR rs) s) H'
def sp_cpart6 (K : PySem.W.Frag) (C CK : Addr) : Sp := fun vs H Q E => ∃ (x : Addr) (v : V) (o : Option PyData) (rs : List Row) (rt : Option Str), vs = [.ref x, v] ∧ VD K H v o ∧ CatAt K C H x rs rt ∧ (intO o = false → Rz H E CK "value" v) ∧
  (intO o = true → ∃ k st, v = .int k ∧ (strT (rvO rt) (ordR (sortR rs))).find? (fun st => hiB st.2.1 k) = some st ∧ ∀ H', Same H H' → Q st.2.2 H')
def sp_limit_text : Sp := fun vs H Q _ => ∃ o : Option Int, vs = [limV o] ∧ smO o ∧ Q (.str (limS o)) H
def sp_span_text (K : PySem.W.Frag) (CS : Addr) : Sp := fun vs H Q E => ∃ (v : V) (o : Option PyData), vs = [v] ∧ VD K H v o ∧ (spanO o = false → Rz H E CS "value" v) ∧ ∀ s : Span, o = some (spD s) → okS s = true → smO s.1 ∧ smO s.2 ∧ ∀ H', Same H H' → Q (.str (spS s)) H'
def rowT (r : Row) : Str := ((Str.empty ++ r.1) ++ (" " : Str)) ++ spS r.2.2
def restT (s : Str) : Str := (Str.empty ++ ("rest " : Str)) ++ s
/-- the text of a catalog -/
def catS (rs : List Row) (rt : Option Str) : Str := if (nmsC rs rt).isEmpty = true then "empty" else Txt.join "; " ((sortR rs).map rowT ++ rt.toList.map restT)
def sp_cstr6 (K : PySem.W.Frag) (C : Addr) : Sp := fun vs H Q _ => ∃ (x : Addr) (rs : List Row) (rt : Option Str), vs = [.ref x] ∧ CatAt K C H x rs rt ∧ (rs.map (·.1)).Nodup ∧ rs.length ≤ 8 ∧ (∀ r ∈ rs, smO r.2.2.1 ∧ smO r.2.2.2) ∧ (∀ s, rt = some s → nameS s = true) ∧ ∀ H' t, t = catS rs rt → Same H H' → Q (.str t) H'
theorem rowT_len {r : Row} (h1 : nameS r.1 = true) (h2 : smO r.2.2.1) (h3 : smO r.2.2.2) : (rowT r).length ≤ 80 := by
  have a1 := nameC_len h1
  have a2 := (limS_ok h2).1
  have a3 := (limS_ok h3).1
  have z : (" " : Str).length = 1 := by decide +kernel
  have z2 : (".." : Str).length = 2 := by decide +kernel
  unfold rowT spS
  rw [emp_app, Str.length_append, Str.length_append, Str.length_append, Str.length_append]
  omega
theorem sum_le6 {m : Nat} : ∀ {ys : List Str}, (∀ y ∈ ys, y.length ≤ m) → (ys.map (·.length)).sum ≤ ys.length * m
  | [], _ => by simp
  | y :: r, h => by
    have h1 := h y List.mem_cons_self
    have h2 := sum_le6 (ys := r) fun z hz => h z (List.mem_cons_of_mem _ hz)
    rw [List.map_cons, List.sum_cons, List.length_cons, Nat.add_mul]
    omega
/-! models: rows, rest, whatever else -/
structure MG (H : Hp) (q : Addr) (rr : List MRow) (rt : Option Str) : Prop where
  at_ : ∃ lr ys, H q = some (.lst (.ref lr :: rvO rt :: ys)) ∧ H lr = some (.lst (rr.map fun r => V.ref r.1))
  rows : ∀ r ∈ rr, rowAt H r
theorem MG.nd {H H' : Hp} {q : Addr} {rr : List MRow} {rt : Option Str} (s : ND H H') (h : MG H q rr rt) : MG H' q rr rt := by
  obtain ⟨⟨lr, ys, h1, h2⟩, h3⟩ := h
  exact ⟨⟨lr, ys, s _ _ h1 rfl, s _ _ h2 rfl⟩, fun r hr => ⟨s _ _ (h3 r hr).1 rfl, s _ _ (h3 r hr).2 rfl⟩⟩
theorem MG.mono {H H' : Hp} {q : Addr} {rr : List MRow} {rt : Option Str} (s : Same H H') (h : MG H q rr rt) : MG H' q rr rt := h.nd (.of s)
theorem MG.ofMd {H : Hp} {q : Addr} {rr : List MRow} {rt : Option Str} {left : List Str} (h : MdAt H q rr rt left) : MG H q rr rt := by
  obtain ⟨⟨lr, ll, h1, h2, h3⟩, h4, _⟩ := h
  exact ⟨⟨lr, [.ref ll], h1, h2⟩, h4⟩
theorem G8.ofMd {H : Hp} {q : Addr} {rr : List MRow} {rt : Option Str} {left : List Str} (h : MdAt H q rr rt left) (hl : rr.length ≤ 7) : G8 rr rt := by
  obtain ⟨_, _, hok, hch, hnm, hnd⟩ := h
  have sub : (namesM rr rt).Sublist (rr.map (·.2.1) ++ (rt.toList ++ left)) := by
    unfold namesM
    exact (List.Sublist.refl _).append (List.sublist_append_left _ _)
  refine ⟨hok, ?_, fun s hs => hnm s (sub.subset hs), hnd.sublist sub, ?_⟩
  · have hpw : rr.Pairwise fun a b => ∃ h l, a.2.2.2.2 = some h ∧ b.2.2.2.1 = some l ∧ h ≤ l := by
      have h : List.Pairwise _ (rr.map (·.2.2.2)) := hch
      rwa [List.pairwise_map] at h
    refine hpw.imp fun {u v} h => ?_
    obtain ⟨h, l, e1, e2, e3⟩ := h
    unfold meetL
    rw [e1, e2]
    show (ok2 u.2.2.2.1 v.2.2.2.2 && decide (l < h)) = false
    rw [decide_eq_false (by omega), Bool.and_false]
  · unfold namesM
    rw [List.length_append, List.length_map]
    have : rt.toList.length ≤ 1 := by cases rt <;> simp
    omega
theorem catP {rs : List Row} {rr : List MRow} {rt : Option Str} (hp : rs.Perm (rowsM rr)) (G : G8 rr rt) : catR rs (rvO rt) (some (rtD rt)) = none := by
  have hnd : (rs.map (·.1)).Nodup := (hp.map _).nodup_iff.mpr G.ndM
  rw [catR_go (ovl_apart hnd (fun r hr => G.okM r (hp.mem_iff.mp hr)) (apart_perm hp G.apartM)), restR_rt fun z e => ⟨(G.rest z e).1, fun m => (G.rest z e).2 (by rw [← rowsM_names]; exact (hp.map _).mem_iff.mp m)⟩]
  refine if_neg ?_
  have := G.len
  unfold namesM at this
  rw [List.length_append, List.length_map] at this
  have h2 := hp.length_eq
  unfold rowsM at h2
  rw [List.length_map] at h2
  rw [List.length_map]
  omega
def sp_lall6 : Sp := fun vs H Q _ => ∃ (q : Addr) (rr : List MRow) (rt : Option Str), vs = [.ref q] ∧ MG H q rr rt ∧ rr.length ≤ 50 ∧ ∀ H' p, Same H H' → H p = none → H' p = some (.lst ((srtS (namesM rr rt)).map V.str)) → Q (.ref p) H'
def sp_lcatG (K : PySem.W.Frag) (C P : Addr) : Sp := fun vs H Q _ => ∃ (p : Addr) (n : Nat) (q : Addr) (rr : List MRow) (rt : Option Str), vs = [.ref p, .ref q] ∧ LS H p n P ∧ MG (nb H p) q rr rt ∧ G8 rr rt ∧ n + 20 < 1000000 ∧
  ∀ (H' : Hp) (x : Addr) (rs : List Row), EX [p] H H' → LS H' p (n + 20) P → CatAt K C (nb H' p) x rs rt → rs.Perm (rowsM rr) → Q (.ref x) H'
def sp_lkeys : Sp := fun vs H Q _ => ∃ (q : Addr) (rr : List MRow) (rt : Option Str), vs = [.ref q] ∧ MG H q rr rt ∧ rr.length ≤ 7 ∧ ∀ H' p ns, Same H H' → H p = none → H' p = some (.lst (ns.map V.int)) → List.length ns ≤ 60 → Q (.ref p) H'
theorem lkSp (d : Addr) (rv : V) (l p : Addr) : (fsC d rv l p).lookup ("span" : Str) = none := by simp [fsC, List.lookup, sb "span" "_spans", sb "span" "_rest", sb "span" "_names", sb "span" "_stretches"]
/-- what is told of a name -/
def toldL (rs : List Row) (ns : List Str) (v : V) (o : Option PyData) : List V := if inO ns o = true then [.str "told", getR (sortR rs) (match o with
  | some (.str s) => s
  | _ => Str.empty)] else [.str "part", v]
def sp_ltold6 (K : PySem.W.Frag) (C : Addr) : Sp := fun vs H Q _ => ∃ (n : Int) (x : Addr) (v : V) (o : Option PyData) (rs : List Row) (rt : Option Str), vs = [.int n, .ref x, v] ∧ CatAt K C H x rs rt ∧ VD K H v o ∧ (∀ s ∈ nmsC rs rt, nameS s = true) ∧
  ((n = 0 ∧ intO o = false ∧ ∀ H' p, Same H H' → H p = none → H' p = some (.lst [.str "key", v]) → Q (.ref p) H') ∨ (n = 1 ∧ ∀ H' p, Same H H' → H p = none → H' p = some (.lst (toldL rs (nmsC rs rt) v o)) → Q (.ref p) H'))
def sp_lasked (K : PySem.W.Frag) (C P : Addr) : Sp := fun vs H Q _ => ∃ (p : Addr) (n : Nat) (x q : Addr) (rs : List Row) (rr : List MRow) (rt : Option Str) (left : List Str), vs = [.ref p, .ref x, .ref q] ∧ LS H p n P ∧ CatAt K C (nb H p) x rs rt ∧ MdAt (nb H p) q rr rt left ∧ rs.Perm (rowsM rr) ∧ rr.length ≤ 7 ∧ 2 ≤ left.length ∧ n + 100 < 1000000 ∧
  ∀ H', EX [p] H H' → LS H' p (n + 80) P → Q (.bl true) H'
theorem cutV_mem {xs : List V} {lo hi : Option Int} {v : V} (h : v ∈ cutV xs lo hi) : v ∈ xs := by
  unfold cutV at h
  exact List.mem_of_mem_drop (List.mem_of_mem_take h)
theorem getR_perm {rs rs' : List Row} (hp : rs.Perm rs') (hnd : (rs'.map (·.1)).Nodup) (s : Str) : getR rs s = getR rs' s := by
  have hnd2 : (rs.map (·.1)).Nodup := (hp.map _).nodup_iff.mpr hnd
  have key : ∀ {l : List Row}, (l.map (·.1)).Nodup → getR l s = if s ∈ l.map (·.1) then .ref (rowOf l s).2.1 else .non := fun {l} h => by
    unfold getR rowOf
    cases q : l.find? fun r => decide (r.1 = s) with
    | none =>
      rw [if_neg fun z => ?_]
      obtain ⟨r, hr, e⟩ := List.mem_map.mp z
      have := List.find?_eq_none.mp q r hr
      simp [e] at this
    | some r =>
      have h1 := List.mem_of_find?_eq_some q
      have h2 := List.find?_some q
      have h2 : r.1 = s := of_decide_eq_true h2
      rw [if_pos (List.mem_map.mpr ⟨r, h1, h2⟩)]
      rfl
  rw [key hnd, key hnd2]
  by_cases h : s ∈ rs'.map (·.1)
  · rw [if_pos h, if_pos ((hp.map _).mem_iff.mpr h), rowOf_perm hp hnd h]
  · rw [if_neg h, if_neg fun z => h ((hp.map _).mem_iff.mp z)]
structure St6 (K : PySem.W.Frag) (C P : Addr) (H : Hp) (p : Addr) (n : Nat) (x : Addr) (rs : List Row) (q : Addr) (rr : List MRow) (rt : Option Str) (left : List Str) : Prop where
  S : LS H p n P
  C : CatAt K C (nb H p) x rs rt
  M : MdAt (nb H p) q rr rt left
section
variable {K : PySem.W.Frag} {C P : Addr} {H H' : Hp} {p : Addr} {n n' : Nat} {x : Addr} {rs : List Row} {q : Addr} {rr : List MRow} {rt : Option Str} {left : List Str}
theorem St6.ex (h : St6 K C P H p n x rs q rr rt left) (e : EX [p] H H') (S : LS H' p n' P) : St6 K C P H' p n' x rs q rr rt left :=
  have s := nb_ex e
  ⟨S, h.C.mono s, h.M.mono s⟩
theorem St6.keep (h : St6 K C P H p n x rs q rr rt left) (s : Same H H') : St6 K C P H' p n x rs q rr rt left := h.ex (.same s) (h.S.keep s)
theorem St6.draw (h : St6 K C P H p n x rs q rr rt left) (B : BoxIn (but H p) H' p n') : St6 K C P H' p n' x rs q rr rt left := h.ex (ex_of B) (h.S.after B)
end
theorem getR_sure (rs : List Row) (s : Str) : sureV (getR rs s) = true := by
  unfold getR
  split <;> rfl
def nsp (r : MRow) : Str × Span := (r.2.1, r.2.2.2)
def Near (rr rr' : List MRow) : Prop := rr.map nsp = rr'.map nsp ∨ ∃ r ∈ rr, ∀ r' ∈ rr', nsp r' ≠ nsp r
def sp_lnear (P : Addr) : Sp := fun vs H Q _ => ∃ (p : Addr) (n : Nat) (q : Addr) (rr : List MRow) (rt : Option Str) (left : List Str), vs = [.ref p, .ref q] ∧ LS H p n P ∧ MdAt (nb H p) q rr rt left ∧ rr.length ≤ 6 ∧ 2 ≤ left.length ∧ n + 20 < 1000000 ∧
  ∀ (H' : Hp) (t q1 q2 : Addr) (rr1 rr2 : List MRow) (rt1 rt2 : Option Str), EX [p] H H' → LS H' p (n + 10) P → nb H' p t = some (.tup [.ref q1, .ref q2]) → MG (nb H' p) q1 rr1 rt1 → G8 rr1 rt1 → MG (nb H' p) q2 rr2 rt2 → G8 rr2 rt2 → Near rr1 rr2 → Q (.ref t) H'
theorem LS.mut {H : Hp} {p a P : Addr} {n : Nat} {l : List V} {o : HO} (S : LS H p n P) (ha : H a = some (.lst l)) (np : a ≠ p) : LS (upd H a o) p n P :=
  ⟨by
    obtain ⟨d, s, c, h1, h⟩ := S.box
    exact ⟨d, s, c, by rw [upd_ne np.symm]; exact h1, h⟩, tabS_sx (xs := [a]) S.tab (fun b u nb e => by rw [upd_ne (by simpa using nb)]; exact e) fun z hz u hu => by
    rw [List.mem_singleton.mp hz, ha] at hu
    cases hu
    exact ⟨_, rfl⟩⟩
/-- rows copied -/
structure Cp (H0 H : Hp) (D : Addr) (cr : List MRow) : Prop where
  Dn : H0 D = none
  lst : H D = some (.lst (cr.map fun r => V.ref r.1))
  rows : ∀ r ∈ cr, rowAt H r ∧ H0 r.1 = none ∧ r.1 ≠ D
  nd : (cr.map (·.1)).Nodup
theorem Cp.ex {H0 H H' : Hp} {p D : Addr} {n : Nat} {cr : List MRow} (c : Cp H0 H D cr) (bx : BoxAt H p n) (hp : ∃ o, H0 p = some o) (e : EX [p] H H') : Cp H0 H' D cr := by
  obtain ⟨o, ho⟩ := hp
  obtain ⟨_, _, _, hb, _⟩ := bx
  have ne : ∀ {a : Addr}, H0 a = none → a ≠ p := fun e z => by
    rw [z, ho] at e
    cases e
  exact ⟨c.Dn, e _ _ (by simpa using ne c.Dn) c.lst fun ps z => (by cases z), fun r hr => by
    obtain ⟨⟨a1, a2⟩, a3, a4⟩ := c.rows r hr
    exact ⟨⟨e _ _ (by simpa using ne a3) a1 fun ps z => (by cases z), e _ _ (by simpa using ne_of a2 hb (by intro z; cases z)) a2 fun ps z => (by cases z)⟩, a3, a4⟩, c.nd⟩
theorem Cp.keep {H0 H H' : Hp} {D : Addr} {cr : List MRow} (c : Cp H0 H D cr) (s : Same H H') : Cp H0 H' D cr := ⟨c.Dn, s _ _ c.lst, fun r hr => by
  obtain ⟨⟨a1, a2⟩, a3, a4⟩ := c.rows r hr
  exact ⟨⟨s _ _ a1, s _ _ a2⟩, a3, a4⟩, c.nd⟩
theorem G8.congr {rr rr' : List MRow} {rt : Option Str} (G : G8 rr rt) (e : rr'.map nsp = rr.map nsp) : G8 rr' rt := by
  have e1 : rr'.map (·.2.1) = rr.map (·.2.1) := by
    have := congrArg (List.map Prod.fst) e
    rw [List.map_map, List.map_map] at this
    exact this
  have e2 : rr'.map (·.2.2.2) = rr.map (·.2.2.2) := by
    have := congrArg (List.map Prod.snd) e
    rw [List.map_map, List.map_map] at this
    exact this
  have en : namesM rr' rt = namesM rr rt := by
    unfold namesM
    rw [e1]
  refine ⟨fun r hr => ?_, ?_, by rw [en]; exact G.nms, by rw [en]; exact G.nd, by rw [en]; exact G.len⟩
  · have : r.2.2.2 ∈ rr.map (·.2.2.2) := by
      rw [← e2]
      exact List.mem_map.mpr ⟨r, hr, rfl⟩
    obtain ⟨r', hr', e3⟩ := List.mem_map.mp this
    rw [← e3]
    exact G.ok r' hr'
  · have h1 : (rr.map (·.2.2.2)).Pairwise fun a b => meetL a b = false := by
      rw [List.pairwise_map]
      exact G.apart
    rw [← e2, List.pairwise_map] at h1
    exact h1
/-- the same rows, another rest or another name of one of them -/
theorem G8.other {rr rr' : List MRow} {rt rt' : Option Str} (G : G8 rr rt) (e : rr'.map (·.2.2.2) = rr.map (·.2.2.2)) (nms : ∀ s ∈ namesM rr' rt', nameS s = true) (nd : (namesM rr' rt').Nodup) (hl : rr.length ≤ 7) : G8 rr' rt' := by
  refine ⟨fun r hr => ?_, ?_, nms, nd, ?_⟩
  · have : r.2.2.2 ∈ rr.map (·.2.2.2) := by
      rw [← e]
      exact List.mem_map.mpr ⟨r, hr, rfl⟩
    obtain ⟨r', hr', e3⟩ := List.mem_map.mp this
    rw [← e3]
    exact G.ok r' hr'
  · have h1 : (rr.map (·.2.2.2)).Pairwise fun a b => meetL a b = false := by
      rw [List.pairwise_map]
      exact G.apart
    rw [← e, List.pairwise_map] at h1
    exact h1
  · have h2 := congrArg List.length e
    rw [List.length_map, List.length_map] at h2
    have : rt'.toList.length ≤ 1 := by cases rt' <;> simp
    unfold namesM
    rw [List.length_append, List.length_map]
    omega
theorem G8.single {a b : Addr} {s : Str} {sp : Span} (h1 : nameS s = true) (h2 : okS sp = true) : G8 [(a, s, b, sp)] none :=
  ⟨fun r hr => by rw [List.mem_singleton.mp hr]; exact h2, List.pairwise_singleton _ _, fun z hz => by
    have : z = s := by simpa [namesM] using hz
    rw [this]; exact h1, by simp [namesM], by simp [namesM]⟩
/-- a copied row gets another name -/
theorem Cp.rep {H0 H : Hp} {D : Addr} {pre post : List MRow} {r : MRow} {s : Str} (c : Cp H0 H D (pre ++ r :: post)) : Cp H0 (upd H r.1 (.lst [.str s, .ref r.2.2.1])) D (pre ++ (r.1, s, r.2.2) :: post) := by
  obtain ⟨⟨a1, a2⟩, a3, a4⟩ := c.rows r (List.mem_append_right _ List.mem_cons_self)
  have nd := c.nd
  rw [List.map_append, List.map_cons] at nd
  have e1 : (pre ++ (r.1, s, r.2.2) :: post).map (fun x => V.ref x.1) = (pre ++ r :: post).map fun x => V.ref x.1 := by
    rw [List.map_append, List.map_append, List.map_cons, List.map_cons]
  have e2 : (pre ++ (r.1, s, r.2.2) :: post).map (·.1) = (pre ++ r :: post).map (·.1) := by
    rw [List.map_append, List.map_append, List.map_cons, List.map_cons]
  have oth : ∀ x, x ∈ pre ++ post → x.1 ≠ r.1 ∧ x ∈ pre ++ r :: post := fun x hx => by
    obtain ⟨n1, n2, n3⟩ := List.nodup_append.mp nd
    rcases List.mem_append.mp hx with hx | hx
    · exact ⟨n3 _ (List.mem_map.mpr ⟨x, hx, rfl⟩) _ List.mem_cons_self, List.mem_append_left _ hx⟩
    · exact ⟨fun z => (List.nodup_cons.mp n2).1 (by rw [← z]; exact List.mem_map.mpr ⟨x, hx, rfl⟩), List.mem_append_right _ (List.mem_cons_of_mem _ hx)⟩
  refine ⟨c.Dn, by rw [e1, upd_ne a4.symm]; exact c.lst, fun x hx => ?_, by rw [e2]; exact c.nd⟩
  by_cases h : x = (r.1, s, r.2.2)
  · rw [h]
    exact ⟨⟨upd_same, by rw [upd_ne (ne_of a2 a1 (by intro z; cases z))]; exact a2⟩, a3, a4⟩
  · have hx : x ∈ pre ++ post := by
      rcases List.mem_append.mp hx with hx | hx
      · exact List.mem_append_left _ hx
      · rcases List.mem_cons.mp hx with hx | hx
        · exact absurd hx h
        · exact List.mem_append_right _ hx
    obtain ⟨n1, n2⟩ := oth x hx
    obtain ⟨⟨b1, b2⟩, b3, b4⟩ := c.rows x n2
    exact ⟨⟨by rw [upd_ne n1]; exact b1, by rw [upd_ne (ne_of b2 a1 (by intro z; cases z))]; exact b2⟩, b3, b4⟩
theorem split_at {α : Type} {l : List α} {k : Nat} {x : α} (h : l[k]? = some x) : l = l.take k ++ x :: l.drop (k + 1) := by
  have hk := (List.getElem?_eq_some_iff.mp h).1
  conv => lhs; rw [← List.take_append_drop k l, List.drop_eq_getElem_cons hk]
  rw [(List.getElem?_eq_some_iff.mp h).2]
def sp_lunlike (P : Addr) : Sp := fun vs H Q _ => vs = [] ∧ LamX.TabS H P lamQ ∧ ∀ H', EX [] H H' → LamX.TabS H' P lamQ → Q (.bl true) H'
/-! ### catalogs made of dicts written out -/
def trOf (e : Str × Span) : TE × TE := (tC (.str e.1), tTup (tCons (tC (limV e.2.1)) (tCons (tC (limV e.2.2)) tNil)))
def nsr (r : Row) : Str × Span := (r.1, r.2.2)
def goodL (L : List (Str × Span)) (rt : Option Str) : Bool := L.all (fun e => nameS e.1 && okS e.2) && (decide (L.map (·.1)).Nodup && (decide (L.Pairwise fun a b => meetL a.2 b.2 = false) && (decide (L.length + rt.toList.length ≤ 8) && (match rt with
  | none => true
  | some s => nameS s && !decide (s ∈ L.map (·.1))))))
theorem pairs_ok {σ : L2.St} {d : Addr} : ∀ (L : List (Str × Span)) (H : Hp) (k : List (V × V) → Hp → Prop), (∀ (rs : List Row) (H' : Hp), Same H H' → rs.map nsr = L → (∀ r ∈ rs, H' r.2.1 = some (.tup (spV r.2.2))) → k (rs.map fun r => (V.str r.1, V.ref r.2.1)) H') → tPairs (L.map trOf) σ H k
  | [], H, k, h => h [] H (Same.refl H) rfl fun r hr => by cases hr
  | e :: L, H, k, h => by
    refine ⟨(by show 2 ≤ sizeLine; decide), fun a ha => ?_⟩
    have s1 := same_new (o := .tup [limV e.2.1, limV e.2.2]) ha
    refine pairs_ok (d := d) L _ _ fun rs H' s2 e2 hr => ?_
    refine h ((e.1, a, e.2) :: rs) H' (s1.trans s2) (by rw [List.map_cons, e2]; rfl) fun r hr' => ?_
    rcases List.mem_cons.mp hr' with rfl | hr'
    · exact s2 _ _ upd_same
    · exact hr r hr'
theorem disp_ok {σ : L2.St} {H : Hp} {Q : VK} {L : List (Str × Span)} (hl : L.length ≤ 15) (hnd : (L.map (·.1)).Nodup) (k : ∀ (d : Addr) (rs : List Row) (H' : Hp), Same H H' → H d = none → rs.map nsr = L → H' d = some (.dK (rs.map rKV)) → (∀ r ∈ rs, H' r.2.1 = some (.tup (spV r.2.2))) → Q (.ref d) H') : tDisp (L.map trOf) σ H Q := by
  intro p hp
  have s0 := same_new (o := .dK []) hp
  refine pairs_ok (d := p) L _ _ fun rs H' s e hr => ⟨s _ _ upd_same, rs.map rKV, by rw [List.map_map]; rfl, ?_, ?_⟩
  · have := congrArg List.length e
    rw [List.length_map] at this
    rw [List.length_map]
    omega
  · have hn : (rs.map (·.1)).Nodup := by
      have e2 : rs.map (·.1) = L.map (·.1) := by
        rw [← e, List.map_map]
        rfl
      rw [e2]
      exact hnd
    have hmk : mergeK [] (rs.map rKV) = rs.map rKV := by
      refine mergeK_nod _ [] ?_
      rw [List.nil_append, List.map_map]
      unfold List.Nodup at hn ⊢
      rw [List.pairwise_map] at hn ⊢
      exact hn.imp fun h e => h (Sum.inr.inj e)
    rw [hmk]
    refine k p rs _ (fun b o eb => ?_) hp e upd_same fun r hr' => ?_
    · rw [upd_ne (ne_of_none eb hp)]
      exact s _ _ (s0 _ _ eb)
    · have := hr r hr'
      rw [upd_ne (ne_of this (s _ _ upd_same) (by intro z; cases z))]
      exact this
theorem catL {L : List (Str × Span)} {rt : Option Str} {rs : List Row} (g : goodL L rt = true) (e : rs.map nsr = L) : (rs.map (·.1)).Nodup ∧ (∀ r ∈ rs, nameS r.1 = true ∧ okS r.2.2 = true) ∧ rs.length ≤ 8 ∧ (∀ s, rt = some s → nameS s = true) ∧ catR rs (rvO rt) (some (rtD rt)) = none := by
  unfold goodL at g
  simp only [Bool.and_eq_true, decide_eq_true_iff] at g
  obtain ⟨g1, g2, g3, g4, g5⟩ := g
  have e2 : rs.map (·.1) = L.map (·.1) := by
    rw [← e, List.map_map]
    rfl
  have hn : (rs.map (·.1)).Nodup := by
    rw [e2]
    exact g2
  have hg : ∀ r ∈ rs, nameS r.1 = true ∧ okS r.2.2 = true := fun r hr => by
    have := List.all_eq_true.mp g1 (nsr r) (by rw [← e]; exact List.mem_map.mpr ⟨r, hr, rfl⟩)
    rw [Bool.and_eq_true] at this
    exact this
  have hp : rs.Pairwise fun a b => meetL a.2.2 b.2.2 = false := by
    rw [← e, List.pairwise_map] at g3
    exact g3
  have hlen : rs.length = L.length := by rw [← e, List.length_map]
  have hr : ∀ s, rt = some s → nameS s = true ∧ s ∉ rs.map (·.1) := fun s es => by
    subst es
    have g5 : (nameS s && !decide (s ∈ L.map (·.1))) = true := g5
    rw [Bool.and_eq_true] at g5
    rw [e2]
    exact ⟨g5.1, by simpa using g5.2⟩
  refine ⟨hn, hg, by omega, fun s es => (hr s es).1, ?_⟩
  rw [catR_go (ovl_apart hn (fun r hr => (hg r hr).2) hp), restR_rt hr]
  refine if_neg ?_
  rw [List.length_map]
  omega
theorem make_core {K : PySem.W.Frag} {C P : Addr} {Cs : Nat → Addr} {H : Hp} {Q : VK} {E : XK} {L : List (Str × Span)} {rt : Option Str} {σ : L2.St} (g : goodL L rt = true) (hT : LamX.TabS H P lamQ) (k : ∀ (x : Addr) (rs : List Row) (H' : Hp), EX [] H H' → LamX.TabS H' P lamQ → CatNew K C H H' x rs rt → rs.map nsr = L → Q (.ref x) H') {S : VK} (hS : ∀ v H1, (∀ x dx, H1 x = none → H1 dx = none → dx ≠ x → sp_cinit K C Cs P [.ref x, v, rvO rt] (upd (upd H1 dx (.own x)) x (.ins C dx [])) (fun z H3 => z = .non ∧ Q (.ref x) H3) E) → S v H1) :
    tDisp (L.map trOf) σ H S := by
  have g' := g
  unfold goodL at g'
  simp only [Bool.and_eq_true, decide_eq_true_iff] at g'
  obtain ⟨_, g2, _, g4, _⟩ := g'
  refine disp_ok (by omega) g2 fun d rs H1 s1 _ e hd hr => hS _ _ fun x dx hx hdx ne => ?_
  obtain ⟨h1, h2, h3, h4, h5⟩ := catL g e
  have sM : Same H1 (upd (upd H1 dx (.own x)) x (.ins C dx [])) := fun b u e => by
    rw [upd_ne (ne_of_none e hx), upd_ne (ne_of_none e hdx)]
    exact e
  refine cinit_rowsR sM hx upd_same (sM _ _ hd) (fun r hr' => ⟨SqT.of (sM _ _ (hr r hr')), (h2 r hr').2, (h2 r hr').1⟩) h1 (by omega) h4 (hT.ext (s1.trans sM)) (fun q eq => ?_) fun _ H' ex hT' hc => ?_
  · rw [h5] at eq
    cases eq
  · exact k x rs H' ((EX.same s1).trans ex) hT' (hc.back s1) e
theorem tMake_disp {K : PySem.W.Frag} {C P : Addr} {Cs : Nat → Addr} {H : Hp} {Q : VK} {E : XK} {σ : L2.St} (L : List (Str × Span)) (g : goodL L none = true) (hT : LamX.TabS H P lamQ) (k : ∀ (x : Addr) (rs : List Row) (H' : Hp), EX [] H H' → LamX.TabS H' P lamQ → CatNew K C H H' x rs none → rs.map nsr = L → Q (.ref x) H') :
    tMake C (sp_cinit K C Cs P) [V.non] E (tCons (tDisp (L.map trOf)) tNil) σ H Q := make_core (rt := none) g hT k fun _ _ h => h
theorem tMakeKS_disp {K : PySem.W.Frag} {C P : Addr} {Cs : Nat → Addr} {H : Hp} {Q : VK} {E : XK} {σ : L2.St} {gV : List V → List V → List V} (hg : ∀ a b c, gV [a, b] [c] = [a, b, c]) (L : List (Str × Span)) (s : Str) (g : goodL L (some s) = true) (hT : LamX.TabS H P lamQ) (k : ∀ (x : Addr) (rs : List Row) (H' : Hp), EX [] H H' → LamX.TabS H' P lamQ → CatNew K C H H' x rs (some s) → rs.map nsr = L → Q (.ref x) H') :
    tMakeKS C 1 1 (sp_cinit K C Cs P) gV (fun _ => E) (tCons (tDisp (L.map trOf)) tNil) (tCons (tC (.str s)) tNil) σ H Q := by
  show tDisp (L.map trOf) σ H (fun v H1 => [v].length = 1 ∧ [V.str s].length = 1 ∧ ∀ x dx, H1 x = none → H1 dx = none → dx ≠ x → sp_cinit K C Cs P (gV (.ref x :: [v]) [.str s]) (upd (upd H1 dx (.own x)) x (.ins C dx [])) (fun z H3 => z = .non ∧ Q (.ref x) H3) E)
  refine make_core (K := K) (C := C) (P := P) (Cs := Cs) (E := E) (Q := Q) (rt := some s) g hT k fun d H1 h => ⟨rfl, rfl, fun x dx a b c => ?_⟩
  rw [hg]
  exact h x dx a b c
theorem CatAt.ex0 {K : PySem.W.Frag} {C : Addr} {H H' : Hp} {x : Addr} {rs : List Row} {rt : Option Str} (s : EX [] H H') (h : CatAt K C H x rs rt) : CatAt K C H' x rs rt := by
  obtain ⟨dx, d, l, p, xs, h1, h2, h3, h4, h5⟩ := h
  have k : ∀ {b : Addr} {o : HO}, H b = some o → (∀ ps, o ≠ .tbl ps) → H' b = some o := fun e t => s _ _ List.not_mem_nil e t
  exact ⟨dx, d, l, p, xs, k h1 (fun ps z => by cases z), k h2 (fun ps z => by cases z), k h3 (fun ps z => by cases z), h4.nd (EX.nil0 s), h5.nd (EX.nil0 s)⟩
theorem spD_eqv (s t : Span) : PyData.eqv (spD s) (spD t) = decide (s = t) := by
  obtain ⟨a, b⟩ := s
  obtain ⟨c, d⟩ := t
  rw [Bool.eq_iff_iff, decide_eq_true_iff]
  cases a <;> cases b <;> cases c <;> cases d <;> simp [spD, limD, PyData.eqv, PyData.eqvAll]
theorem findD_none {k : Key} : ∀ {l : List (Key × PyData)}, k ∉ l.map (·.1) → findD l k = none
  | [], _ => rfl
  | x :: r, h => by
    rw [List.map_cons, List.mem_cons, not_or] at h
    exact (if_neg fun z => h.1 z.symm).trans (findD_none h.2)
theorem sortD_nd {rs : List Row} (hnd : (rs.map (·.1)).Nodup) : ((sortD rs).map (·.1)).Nodup := by
  unfold sortD
  rw [List.map_map]
  have h1 : ((sortR rs).map (·.1)).Nodup := by
    rw [sortR_names]
    exact srt_nodup hnd
  unfold List.Nodup at h1 ⊢
  rw [List.pairwise_map] at h1 ⊢
  exact h1.imp fun h e => h (Sum.inr.inj e)
/-- a row that stands on one side only -/
theorem ceq_row {rs rs' : List Row} {rt rt' : Option Str} (h1 : (rs.map (·.1)).Nodup) (h2 : (rs'.map (·.1)).Nodup) {r : Row} (hr : r ∈ rs) (hn : ∀ r' ∈ rs', nsr r' ≠ nsr r) : ceqB rs rs' rt rt' = false := by
  have he : entsEq (sortD rs) (sortD rs') = false := by
    rw [Bool.eq_false_iff]
    intro z
    unfold entsEq at z
    have hm : ((.inr r.1 : Key), spD r.2.2) ∈ sortD rs := List.mem_map.mpr ⟨r, (sortR_perm h1).mem_iff.mpr hr, rfl⟩
    have z := List.all_eq_true.mp z _ hm
    by_cases hk : (Sum.inr r.1 : Key) ∈ (sortD rs').map (·.1)
    · obtain ⟨p, hp, e⟩ := List.mem_map.mp hk
      obtain ⟨r', hr', rfl⟩ := List.mem_map.mp hp
      have e : r'.1 = r.1 := Sum.inr.inj e
      have hf := findD_of (sortD_nd h2) _ hp
      have hf : findD (sortD rs') (Sum.inr r.1) = some (spD r'.2.2) := by
        rw [← e]
        exact hf
      rw [hf] at z
      have z : PyData.eqv (spD r.2.2) (spD r'.2.2) = true := z
      rw [spD_eqv, decide_eq_true_iff] at z
      refine hn r' ((sortR_perm h2).mem_iff.mp hr') ?_
      show (r'.1, r'.2.2) = (r.1, r.2.2)
      rw [e, z]
    · rw [findD_none hk] at z
      cases z
  unfold ceqB
  rw [he, Bool.and_false, Bool.false_and]
def neL (L L' : List (Str × Span)) (rt rt' : Option Str) : Bool := !decide (L.length = L'.length) || (!decide (rt = rt') || L.any fun e => L'.all fun e' => !decide (e' = e))
theorem ceq_ne {rs rs' : List Row} {rt rt' : Option Str} {L L' : List (Str × Span)} (h1 : (rs.map (·.1)).Nodup) (h2 : (rs'.map (·.1)).Nodup) (e1 : rs.map nsr = L) (e2 : rs'.map nsr = L') (h : neL L L' rt rt' = true) : ceqB rs rs' rt rt' = false := by
  unfold neL at h
  rw [Bool.or_eq_true, Bool.or_eq_true] at h
  rcases h with h | h | h
  · have : rs.length ≠ rs'.length := fun z => by
      rw [← e1, ← e2, List.length_map, List.length_map, z] at h
      simp at h
    unfold ceqB
    rw [beq_eq_false_iff_ne.mpr this, Bool.false_and, Bool.false_and]
  · have : rt ≠ rt' := by simpa using h
    unfold ceqB
    rw [decide_eq_false this, Bool.and_false]
  · obtain ⟨e, he, ha⟩ := List.any_eq_true.mp h
    rw [← e1] at he
    obtain ⟨r, hr, rfl⟩ := List.mem_map.mp he
    refine ceq_row h1 h2 hr fun r' hr' z => ?_
    have := List.all_eq_true.mp ha (nsr r') (by rw [← e2]; exact List.mem_map.mpr ⟨r', hr', rfl⟩)
    simp [z] at this
theorem seq_asg {e : TE} {g : TG} {u : TS} {D : L2.Ends} {σ : L2.St} {H : Hp} (h : e σ H fun v H1 => g v σ H1 (u D)) : tSeq (tAsg e g) u D σ H := h
theorem lst_cons {ta : TE} {tr : TA} {σ : L2.St} {H : Hp} {Q : VK} (h : ta σ H fun x H1 => tr σ H1 fun xs H2 => (x :: xs).length ≤ sizeLine ∧ ∀ p, H2 p = none → Q (.ref p) (upd H2 p (.lst (x :: xs)))) : tLst (tCons ta tr) σ H Q := h
theorem cons_cons {ta : TE} {tr : TA} {σ : L2.St} {H : Hp} {Q : List V → Hp → Prop} (h : ta σ H fun x H1 => tr σ H1 fun xs H2 => Q (x :: xs) H2) : tCons ta tr σ H Q := h
/-- a list that was there before is changed -/
theorem CatNew.mutL {K : PySem.W.Frag} {C : Addr} {H0 H : Hp} {a x : Addr} {ys : List V} {o : HO} {rs : List Row} {rt : Option Str} (h0 : ∃ u, H0 a = some u) (ha : H a = some (.lst ys)) (h : CatNew K C H0 H x rs rt) : CatAt K C (upd H a o) x rs rt := by
  obtain ⟨dx, d, l, s, xs, h1, h2, h3, h4, h5, h6, h7, h8⟩ := h
  obtain ⟨u, hu⟩ := h0
  have ne : ∀ {b : Addr}, H0 b = none → b ≠ a := fun e z => by
    rw [z, hu] at e
    cases e
  have k : ∀ {b : Addr} {o1 : HO}, b ≠ a → H b = some o1 → upd H a o b = some o1 := fun n e => by rw [upd_ne n]; exact e
  obtain ⟨zs, e1, e2, e3⟩ := h4.2
  refine ⟨dx, d, l, s, xs, k (ne_of h1 ha (by intro z; cases z)) h1, k (ne h6) h2, k (ne h7) h3, ⟨k (ne h8) h4.1, zs, e1, e2, fun z hz => k (ne_of (e3 z hz) ha (by intro z; cases z)) (e3 z hz)⟩, fun r hr => ⟨?_, (h5 r hr).2⟩⟩
  rcases (h5 r hr).1 with (h | ⟨o, h⟩) | h
  · exact .inl (.inl (k (ne_of h ha (by intro z; cases z)) h))
  · exact .inl (.inr ⟨o, k (ne_of h ha (by intro z; cases z)) h⟩)
  · exact .inr h
theorem smI_O : ∀ {o : Option Int}, smI o → smO o
  | none, _ => trivial
  | some _, h => h
/-! ### models compared by == -/
def rowD (r : MRow) : PyData := .list [.str r.2.1, spD r.2.2.2]
theorem rowD_sh {r : MRow} (h : nameS r.2.1 = true) : (rowD r).canLay0 = true ∧ (rowD r).depth ≤ 2 := by
  unfold rowD
  have s2 := shaped_sp r.2.2.2
  obtain ⟨c1, c2⟩ := shaped_iff.mp s2
  constructor
  · simp only [PyData.canLay0]
    refine canAll_mem.mpr fun d hd => ?_
    simp only [List.mem_cons, List.not_mem_nil, or_false] at hd
    rcases hd with rfl | rfl
    · simp only [PyData.canLay0]
      exact nameC_ok h
    · exact c1
  · have h1 : (spD r.2.2.2).depth ≤ 1 := by
      unfold spD
      have : PyData.depthAll [limD r.2.2.2.1, limD r.2.2.2.2] ≤ 0 := depthAll_le fun d hd => by
        simp only [List.mem_cons, List.not_mem_nil, or_false] at hd
        rcases hd with rfl | rfl
        · cases r.2.2.2.1 <;> simp [limD, PyData.depth]
        · cases r.2.2.2.2 <;> simp [limD, PyData.depth]
      simp only [PyData.depth]
      omega
    have : PyData.depthAll [.str r.2.1, spD r.2.2.2] ≤ 1 := depthAll_le fun d hd => by
      simp only [List.mem_cons, List.not_mem_nil, or_false] at hd
      rcases hd with rfl | rfl
      · simp [PyData.depth]
      · exact h1
    simp only [PyData.depth]
    omega
def mdD (rr : List MRow) (rt : Option Str) : PyData := .list [.list (rr.map rowD), rtD rt]
theorem mdD_sh {rr : List MRow} {rt : Option Str} (h : ∀ r ∈ rr, nameS r.2.1 = true) (hr : ∀ s, rt = some s → nameS s = true) : SeqAt.shaped (mdD rr rt) = true := shaped_list (n := 3) (by decide) fun d hd => by
  simp only [List.mem_cons, List.not_mem_nil, or_false] at hd
  rcases hd with rfl | rfl
  · constructor
    · simp only [PyData.canLay0]
      refine canAll_mem.mpr fun d hd => ?_
      obtain ⟨r, hr', rfl⟩ := List.mem_map.mp hd
      exact (rowD_sh (h r hr')).1
    · have : PyData.depthAll (rr.map rowD) ≤ 2 := depthAll_le fun d hd => by
        obtain ⟨r, hr', rfl⟩ := List.mem_map.mp hd
        exact (rowD_sh (h r hr')).2
      simp only [PyData.depth]
      omega
  · cases rt with
    | none => exact ⟨rfl, by simp [rtD, PyData.depth]⟩
    | some s =>
      refine ⟨?_, by simp [rtD, PyData.depth]⟩
      simp only [rtD, PyData.canLay0]
      exact nameC_ok (hr s rfl)
theorem dp_rt {K : PySem.W.Frag} {H : Hp} (rt : Option Str) : Dp K H (rvO rt) (rtD rt) := by
  cases rt with
  | none => exact .non
  | some s => exact .str s
theorem eqv_rowD (a b : MRow) : PyData.eqv (rowD a) (rowD b) = decide (nsp a = nsp b) := by
  have h1 : PyData.eqv (rowD a) (rowD b) = (PyData.eqv (.str a.2.1) (.str b.2.1) && (PyData.eqv (spD a.2.2.2) (spD b.2.2.2) && true)) := by
    simp [rowD, PyData.eqv, PyData.eqvAll]
  rw [h1, spD_eqv, Bool.eq_iff_iff]
  simp [nsp, PyData.eqv]
theorem eqvAll_rowD : ∀ (a b : List MRow), PyData.eqvAll (a.map rowD) (b.map rowD) = decide (a.map nsp = b.map nsp)
  | [], [] => by simp [PyData.eqvAll]
  | [], _ :: _ => by simp [PyData.eqvAll]
  | _ :: _, [] => by simp [PyData.eqvAll]
  | x :: a, y :: b => by
    have ih := eqvAll_rowD a b
    simp only [List.map_cons, PyData.eqvAll, ih, eqv_rowD]
    rw [Bool.eq_iff_iff]
    simp
theorem eqv_rtD (a b : Option Str) : PyData.eqv (rtD a) (rtD b) = decide (a = b) := by
  rw [Bool.eq_iff_iff]
  cases a <;> cases b <;> simp [rtD, PyData.eqv]
theorem eqv_mdD (rr rr' : List MRow) (rt rt' : Option Str) : PyData.eqv (mdD rr rt) (mdD rr' rt') = (decide (rr.map nsp = rr'.map nsp) && decide (rt = rt')) := by
  have : PyData.eqv (mdD rr rt) (mdD rr' rt') = (PyData.eqv (.list (rr.map rowD)) (.list (rr'.map rowD)) && (PyData.eqv (rtD rt) (rtD rt') && true)) := by
    simp [mdD, PyData.eqv, PyData.eqvAll]
  have h2 : PyData.eqv (.list (rr.map rowD)) (.list (rr'.map rowD)) = PyData.eqvAll (rr.map rowD) (rr'.map rowD) := by
    simp [PyData.eqv]
  rw [this, h2, eqvAll_rowD, eqv_rtD, Bool.and_true]
/-- the same rows on both sides -/
theorem ceq_same {rs rs' : List Row} {rt rt' : Option Str} (h1 : (rs.map (·.1)).Nodup) (h2 : (rs'.map (·.1)).Nodup) (hl : rs.length = rs'.length) (h : ∀ r ∈ rs, ∃ r' ∈ rs', nsr r' = nsr r) : ceqB rs rs' rt rt' = decide (rt = rt') := by
  have he : entsEq (sortD rs) (sortD rs') = true := by
    unfold entsEq
    refine List.all_eq_true.mpr fun p hp => ?_
    obtain ⟨r, hr, rfl⟩ := List.mem_map.mp hp
    obtain ⟨r', hr', e⟩ := h r ((sortR_perm h1).mem_iff.mp hr)
    have e : ((r'.1, r'.2.2) : Str × Span) = (r.1, r.2.2) := e
    have en : r'.1 = r.1 := (Prod.mk.inj e).1
    have es : r'.2.2 = r.2.2 := (Prod.mk.inj e).2
    have hf := findD_of (sortD_nd h2) _ (List.mem_map.mpr ⟨r', (sortR_perm h2).mem_iff.mpr hr', rfl⟩)
    have hf : findD (sortD rs') (Sum.inr r.1) = some (spD r'.2.2) := by
      rw [← en]
      exact hf
    rw [hf]
    show PyData.eqv (spD r.2.2) (spD r'.2.2) = true
    rw [spD_eqv, es, decide_eq_true rfl]
  unfold ceqB
  rw [he, hl, beq_self_eq_true, Bool.and_true, Bool.true_and]
theorem ceq_near {rs rs' : List Row} {rr rr' : List MRow} {rt rt' : Option Str} (p1 : rs.Perm (rowsM rr)) (p2 : rs'.Perm (rowsM rr')) (n1 : ((rowsM rr).map (·.1)).Nodup) (n2 : ((rowsM rr').map (·.1)).Nodup) (hN : Near rr rr') : ceqB rs rs' rt rt' = PyData.eqv (mdD rr rt) (mdD rr' rt') := by
  have m1 : (rs.map (·.1)).Nodup := (p1.map _).nodup_iff.mpr n1
  have m2 : (rs'.map (·.1)).Nodup := (p2.map _).nodup_iff.mpr n2
  rw [eqv_mdD]
  rcases hN with e | ⟨r, hr, hn⟩
  · rw [decide_eq_true e, Bool.true_and]
    have hl := congrArg List.length e
    rw [List.length_map, List.length_map] at hl
    refine ceq_same m1 m2 (by rw [p1.length_eq, p2.length_eq]; unfold rowsM; rw [List.length_map, List.length_map]; exact hl) fun x hx => ?_
    obtain ⟨mr, hmr, rfl⟩ := List.mem_map.mp (p1.mem_iff.mp hx)
    have : nsp mr ∈ rr'.map nsp := by
      rw [← e]
      exact List.mem_map.mpr ⟨mr, hmr, rfl⟩
    obtain ⟨mr', hmr', e2⟩ := List.mem_map.mp this
    exact ⟨_, p2.mem_iff.mpr (List.mem_map.mpr ⟨mr', hmr', rfl⟩), e2⟩
  · have ne : rr.map nsp ≠ rr'.map nsp := fun e => by
      have : nsp r ∈ rr'.map nsp := by
        rw [← e]
        exact List.mem_map.mpr ⟨r, hr, rfl⟩
      obtain ⟨r', hr', e2⟩ := List.mem_map.mp this
      exact hn r' hr' e2
    rw [decide_eq_false ne, Bool.false_and]
    refine ceq_row m1 m2 (r := (r.2.1, r.2.2.1, r.2.2.2)) (p1.mem_iff.mpr (List.mem_map.mpr ⟨r, hr, rfl⟩)) fun x hx => ?_
    obtain ⟨mr, hmr, rfl⟩ := List.mem_map.mp (p2.mem_iff.mp hx)
    exact hn mr hmr
/-! ### texts of catalogs: what they are, what is read -/
def numB (w : Str) : Bool := (numO (tl w)).isSome
def limB (w : Str) : Bool := (limT w).isSome
def sp_s1 (f : Str → Bool) : Sp := fun vs H Q _ => ∃ w : Str, vs = [.str w] ∧ w.length ≤ 1000 ∧ ∀ H', Same H H' → Q (.bl (f w)) H'
def sp_read_limit : Sp := fun vs H Q _ => ∃ (w : Str) (o : Option Int), vs = [.str w] ∧ w.length ≤ 1000 ∧ limT w = some o ∧ Q (limV o) H
def sp_read_span (K : PySem.W.Frag) (CT : Addr) : Sp := fun vs H Q E => ∃ (v : V) (o : Option PyData), vs = [v] ∧ VD K H v o ∧ (rdT o = none → Rz H E CT "value" v) ∧ ∀ s : Span, rdT o = some s → ∀ p H', Same H H' → H p = none → H' p = some (.tup (spV s)) → Q (.ref p) H'
theorem par_appC {S : List Nat} : ∀ {L acc a b : List Nat}, TL.par S acc L = some (a, b) → acc ++ L = a ++ S ++ b
  | [], acc, a, b, h => by simp [TL.par] at h
  | c :: r, acc, a, b, h => by
    rw [TL.par] at h
    split at h
    · rename_i hp
      injection h with h
      injection h with h1 h2
      subst h1 h2
      have e : (c :: r).take S.length = S := eq_of_beq hp
      have := List.take_append_drop S.length (c :: r)
      rw [e] at this
      rw [List.append_assoc, this]
    · have := par_appC h
      simpa using this
theorem name_freeC {s : Str} (h : nameS s = true) {c : Nat} (hc : okSign c = false) : c ∉ TL.tl s := fun hm => by
  unfold nameS at h
  rw [Bool.and_eq_true, Bool.and_eq_true, Bool.and_eq_true] at h
  have := List.all_eq_true.mp h.2.2.2 c hm
  rw [hc] at this
  cases this
theorem spC_tl : TL.tl (" " : Str) = [32] := by decide +kernel
theorem semi_tl : TL.tl ("; " : Str) = [59, 32] := by decide +kernel
theorem semi_k : ("; " : Str).cps.all (· < 256) = true := by decide +kernel
theorem spC_k : (" " : Str).cps.all (· < 256) = true := by decide +kernel
theorem join_semi (t : Str) : Txt.join "; " (Txt.split t "; ") = t := by
  rw [TL.join_eq]
  exact PySem.StrLaws.join_split t "; "
theorem join_spC (t : Str) : Txt.join " " (Txt.split t " ") = t := by
  rw [TL.join_eq]
  exact PySem.StrLaws.join_split t " "
theorem join_twoC (a x y : Str) : Txt.join a [x, y] = x ++ a ++ y := TL.ext_tl (by
  rw [TL.join_eq, TL.tl_join, TL.tl_append, TL.tl_append]
  simp [TL.joinL])
/-- the text of a span that a text is -/
theorem limT_text {w : Str} {o : Option Int} (h : limT w = some o) : limS o = w ∧ smO o := by
  unfold limT at h
  split at h
  · rename_i e
    cases h
    exact ⟨(eq_of_beq e).symm, trivial⟩
  · obtain ⟨i, hi, rfl⟩ := Option.map_eq_some_iff.mp h
    unfold numO at hi
    split at hi
    · rename_i hc
      rw [Bool.and_eq_true] at hc
      cases hi
      have hb := back_eq hc.1
      rw [hc.2] at hb
      refine ⟨eq_of_beq hb, ?_⟩
      obtain ⟨_, h2, h3⟩ := digOk_iff.mp hc.1
      have hv : NumText.digitsVal (sgn (tl w)).2 < 10 ^ 30 := Nat.lt_of_lt_of_le (val_lt _ h3) (Nat.pow_le_pow_right (by decide) h2)
      show (worth (tl w)).natAbs < 10 ^ 30
      unfold worth
      split <;> omega
    · cases hi
theorem rdO_text {x : Str} {s : Span} (h : rdO x = some s) : spS s = x ∧ okS s = true ∧ smO s.1 ∧ smO s.2 := by
  unfold rdO at h
  split at h
  · cases h
  · rename_i hf
    rcases cut_cases x with ⟨e1, _⟩ | ⟨i, _, e1, e2⟩
    · exact absurd e1 hf
    · have hp := TL.partition_par x ".." (by rw [dots_tl]; simp)
      rw [hp] at h
      cases hq : TL.par (TL.tl (".." : Str)) [] (TL.tl x) with
      | none =>
        rw [hq] at hp
        rw [hp] at e2
        have := congrArg (fun q => TL.tl q.2.1) e2
        revert this
        show ([] : List Nat) = TL.tl (".." : Str) → _
        rw [dots_tl]
        simp
      | some q =>
        obtain ⟨a, b⟩ := q
        rw [hq] at h
        have hx := par_appC hq
        rw [List.nil_append] at hx
        have h : pairO (limT ⟨a.toArray⟩) (limT ⟨b.toArray⟩) = some s := h
        cases ha : limT ⟨a.toArray⟩ with
        | none => rw [ha] at h; cases h
        | some o1 =>
          cases hb : limT ⟨b.toArray⟩ with
          | none => rw [ha, hb] at h; cases h
          | some o2 =>
            rw [ha, hb] at h
            have h : (if okS (o1, o2) = true then some (o1, o2) else none) = some s := h
            split at h
            · rename_i ho
              cases h
              obtain ⟨t1, m1⟩ := limT_text ha
              obtain ⟨t2, m2⟩ := limT_text hb
              refine ⟨TL.ext_tl ?_, ho, m1, m2⟩
              show TL.tl (limS o1 ++ ".." ++ limS o2) = TL.tl x
              rw [TL.tl_append, TL.tl_append, t1, t2, hx]
            · cases h
theorem spS_free {c : Nat} (s : Span) (h1 : c ≠ 45) (h2 : c ≠ 46) (h3 : c < 48 ∨ 57 < c) : c ∉ TL.tl (spS s) := by
  have lf : ∀ o : Option Int, c ∉ TL.tl (limS o) := fun o => by
    show c ∉ tl (limS o)
    rw [limS_tl]
    cases o with
    | none => simp
    | some i =>
      intro h
      rcases intL_mem h with q | q <;> omega
  show c ∉ TL.tl (limS s.1 ++ ".." ++ limS s.2)
  rw [TL.tl_append, TL.tl_append, dots_tl, List.mem_append, List.mem_append]
  rintro ((h | h) | h)
  · exact lf _ h
  · simp only [List.mem_cons, List.not_mem_nil, or_false, or_self] at h
    exact h2 h
  · exact lf _ h
theorem spS_dot (s : Span) : 46 ∈ TL.tl (spS s) := by
  show 46 ∈ TL.tl (limS s.1 ++ ".." ++ limS s.2)
  rw [TL.tl_append, TL.tl_append, dots_tl, List.mem_append, List.mem_append]
  exact .inl (.inr List.mem_cons_self)
theorem rdO_name {w : Str} (h : nameS w = true) : rdO w = none := by
  cases e : rdO w with
  | none => rfl
  | some s =>
    have := spS_dot s
    rw [(rdO_text e).1] at this
    exact absurd this (name_freeC h (by decide))
/-! rows told -/
def rowN (e : Str × Span) : Str := e.1 ++ (" " : Str) ++ spS e.2
def restN (s : Str) : Str := ("rest" : Str) ++ (" " : Str) ++ s
def itemsN (L : List (Str × Span)) (r : Option Str) : List Str := L.map rowN ++ r.toList.map restN
def catN (L : List (Str × Span)) (r : Option Str) : Str := if (L.isEmpty && r.isNone) = true then "empty" else Txt.join "; " (itemsN L r)
theorem rest_name : nameS "rest" = true := by decide +kernel
theorem split_two {a b : Str} (ha : 32 ∉ TL.tl a) (hb : 32 ∉ TL.tl b) : Txt.split (a ++ (" " : Str) ++ b) " " = [a, b] := by
  rw [← join_twoC]
  refine TL.split_join spC_tl spC_k (by simp) fun p hp => ?_
  simp only [List.mem_cons, List.not_mem_nil, or_false] at hp
  rcases hp with rfl | rfl <;> assumption
theorem split_row {e : Str × Span} (h : nameS e.1 = true) : Txt.split (rowN e) " " = [e.1, spS e.2] := split_two (name_freeC h (by decide)) (spS_free _ (by decide) (by decide) (by decide))
theorem split_rest {s : Str} (h : nameS s = true) : Txt.split (restN s) " " = [("rest" : Str), s] := split_two (name_freeC rest_name (by decide)) (name_freeC h (by decide))
theorem row_free {e : Str × Span} (h : nameS e.1 = true) : 59 ∉ TL.tl (rowN e) := by
  unfold rowN
  rw [TL.tl_append, TL.tl_append, spC_tl, List.mem_append, List.mem_append]
  rintro ((q | q) | q)
  · exact name_freeC h (by decide) q
  · simp at q
  · exact spS_free _ (by decide) (by decide) (by decide) q
theorem rest_free {s : Str} (h : nameS s = true) : 59 ∉ TL.tl (restN s) := by
  unfold restN
  rw [TL.tl_append, TL.tl_append, spC_tl, List.mem_append, List.mem_append]
  rintro ((q | q) | q)
  · exact name_freeC rest_name (by decide) q
  · simp at q
  · exact name_freeC h (by decide) q
theorem row_sp (e : Str × Span) : 32 ∈ TL.tl (rowN e) := by
  unfold rowN
  rw [TL.tl_append, TL.tl_append, spC_tl, List.mem_append, List.mem_append]
  exact .inl (.inr List.mem_cons_self)
theorem rest_sp (s : Str) : 32 ∈ TL.tl (restN s) := by
  unfold restN
  rw [TL.tl_append, TL.tl_append, spC_tl, List.mem_append, List.mem_append]
  exact .inl (.inr List.mem_cons_self)
/-! ### the law's reading -/
abbrev RdQ := List (Str × Span) × Option Str
def badE (L : List (Str × Span)) (w : Str) (s : Span) : Bool := L.any fun e => leS w e.1 || meetL e.2 s
def itemL (q : RdQ) (x : Str) : Option RdQ := match Txt.split x " " with
  | [w0, w1] => if (q.2.isSome || !nameS w0) = true then none else match rdO w1 with
    | some s => if badE q.1 w0 s = true then none else some (q.1 ++ [(w0, s)], q.2)
    | none => if (!decide (w0 = "rest") || (!nameS w1 || decide (w1 ∈ q.1.map (·.1)))) = true then none else some (q.1, some w1)
  | _ => none
def foldI (f : RdQ → Str → Option RdQ) : List Str → RdQ → Option RdQ
  | [], q => some q
  | x :: r, q => (f q x).bind (foldI f r)
def lawC (t : Str) : Option RdQ := if (t == ("empty" : Str)) = true then some ([], none) else (foldI itemL (Txt.split t "; ") ([], none)).bind fun q => if 8 < q.1.length + q.2.toList.length then none else some q
structure VN (L : List (Str × Span)) (r : Option Str) : Prop where
  nm : ∀ e ∈ L, nameS e.1 = true
  sp : ∀ e ∈ L, okS e.2 = true ∧ smO e.2.1 ∧ smO e.2.2
  up : L.Pairwise fun a b => leS b.1 a.1 = false
  ap : L.Pairwise fun a b => meetL a.2 b.2 = false
  rt : ∀ s, r = some s → nameS s = true ∧ s ∉ L.map (·.1)
theorem badE_no {L : List (Str × Span)} {w : Str} {s : Span} : badE L w s = false ↔ ∀ e ∈ L, leS w e.1 = false ∧ meetL e.2 s = false := by
  unfold badE
  rw [List.any_eq_false]
  constructor
  · intro h e he
    have := h e he
    simpa using this
  · intro h e he
    simp [h e he]
theorem fold_law : ∀ {xs : List Str} {L L' : List (Str × Span)} {r r' : Option Str}, foldI itemL xs (L, r) = some (L', r') → VN L r → VN L' r' ∧ itemsN L' r' = itemsN L r ++ xs ∧ (r ≠ none → xs = [])
  | [], L, L', r, r', h, v => by
    cases h
    exact ⟨v, (List.append_nil _).symm, fun _ => rfl⟩
  | x :: xs, L, L', r, r', h, v => by
    have h : (itemL (L, r) x).bind (foldI itemL xs) = some (L', r') := h
    obtain ⟨⟨L1, r1⟩, h1, h2⟩ := Option.bind_eq_some_iff.mp h
    unfold itemL at h1
    split at h1
    · rename_i w0 w1 hs
      have hx : w0 ++ (" " : Str) ++ w1 = x := by
        rw [← join_twoC, ← hs]
        exact join_spC x
      split at h1
      · cases h1
      · rename_i hc
        have hc : (r.isSome || !nameS w0) = false := by simpa using hc
        rw [Bool.or_eq_false_iff] at hc
        have hr : r = none := by
          cases r with
          | none => rfl
          | some s => cases hc.1
        subst hr
        have hn : nameS w0 = true := by simpa using hc.2
        split at h1
        · rename_i s hrd
          split at h1
          · cases h1
          · rename_i hb
            have hb : badE L w0 s = false := by simpa using hb
            rw [badE_no] at hb
            cases h1
            obtain ⟨t1, t2, t3, t4⟩ := rdO_text hrd
            have v1 : VN (L ++ [(w0, s)]) none := by
              refine ⟨fun e he => ?_, fun e he => ?_, ?_, ?_, fun s e => (by cases e)⟩
              · rcases List.mem_append.mp he with he | he
                · exact v.nm e he
                · rw [List.mem_singleton.mp he]; exact hn
              · rcases List.mem_append.mp he with he | he
                · exact v.sp e he
                · rw [List.mem_singleton.mp he]; exact ⟨t2, t3, t4⟩
              · refine List.pairwise_append.mpr ⟨v.up, List.pairwise_singleton _ _, fun a ha b hb' => ?_⟩
                rw [List.mem_singleton.mp hb']
                exact (hb a ha).1
              · refine List.pairwise_append.mpr ⟨v.ap, List.pairwise_singleton _ _, fun a ha b hb' => ?_⟩
                rw [List.mem_singleton.mp hb']
                exact (hb a ha).2
            obtain ⟨v2, e2, _⟩ := fold_law h2 v1
            refine ⟨v2, ?_, fun z => absurd rfl z⟩
            rw [e2]
            have : rowN (w0, s) = x := by
              unfold rowN
              rw [t1]
              exact hx
            unfold itemsN
            simp [this]
        · split at h1
          · cases h1
          · rename_i hb
            have hb : (!decide (w0 = "rest") || (!nameS w1 || decide (w1 ∈ L.map (·.1)))) = false := by simpa using hb
            rw [Bool.or_eq_false_iff, Bool.or_eq_false_iff] at hb
            obtain ⟨b1, b2, b3⟩ := hb
            have b1 : w0 = "rest" := by simpa using b1
            have b2 : nameS w1 = true := by simpa using b2
            have b3 : w1 ∉ L.map (·.1) := of_decide_eq_false b3
            cases h1
            have v1 : VN L (some w1) := ⟨v.nm, v.sp, v.up, v.ap, fun s e => by cases e; exact ⟨b2, b3⟩⟩
            obtain ⟨v2, e2, e3⟩ := fold_law h2 v1
            have e3 := e3 (by simp)
            subst e3
            refine ⟨v2, ?_, fun z => absurd rfl z⟩
            rw [e2]
            have : restN w1 = x := by
              unfold restN
              rw [← b1]
              exact hx
            unfold itemsN
            simp [this]
    · cases h1
theorem split_ne (t : Str) : Txt.split t "; " ≠ [] := fun z => by
  have h := TL.split_spl t "; " (by rw [semi_tl]; simp) (TL.kind_ok semi_k)
  rw [z, semi_tl] at h
  have ne : ∀ (L acc : List Nat) (k : Nat), TL.spl [59, 32] k acc L ≠ [] := by
    intro L
    induction L with
    | nil => intro acc k; rw [TL.spl_nil]; simp
    | cons c r ih =>
      intro acc k
      cases k with
      | zero =>
        cases hp : TL.pre [59, 32] (c :: r) with
        | true => rw [TL.spl_hit hp]; simp
        | false => rw [TL.spl_miss hp]; exact ih _ _
      | succ k => exact ih _ _
  exact ne _ _ _ h.symm
theorem law_told {t : Str} {L : List (Str × Span)} {r : Option Str} (h : lawC t = some (L, r)) : VN L r ∧ L.length + r.toList.length ≤ 8 ∧ catN L r = t := by
  unfold lawC at h
  split at h
  · rename_i e
    cases h
    exact ⟨⟨fun e he => (by cases he), fun e he => (by cases he), .nil, .nil, fun s e => (by cases e)⟩, by simp, (eq_of_beq e).symm⟩
  · obtain ⟨q, h1, h2⟩ := Option.bind_eq_some_iff.mp h
    split at h2
    · cases h2
    · rename_i hl
      cases h2
      obtain ⟨v, e, _⟩ := fold_law h1 ⟨fun e he => (by cases he), fun e he => (by cases he), .nil, .nil, fun s e => (by cases e)⟩
      have e : itemsN L r = Txt.split t "; " := e
      have hl : ¬ 8 < L.length + r.toList.length := hl
      refine ⟨v, by omega, ?_⟩
      unfold catN
      rw [if_neg, e, join_semi]
      intro z
      rw [Bool.and_eq_true] at z
      have : itemsN L r = [] := by
        cases L with
        | nil =>
          cases r with
          | none => rfl
          | some s => cases z.2
        | cons a b => cases z.1
      rw [this] at e
      exact split_ne t e.symm
theorem law_row {L : List (Str × Span)} {e : Str × Span} (h1 : nameS e.1 = true) (h2 : okS e.2 = true ∧ smO e.2.1 ∧ smO e.2.2) (h3 : ∀ a ∈ L, leS e.1 a.1 = false ∧ meetL a.2 e.2 = false) : itemL (L, none) (rowN e) = some (L ++ [e], none) := by
  unfold itemL
  rw [split_row h1]
  show (if ((none : Option Str).isSome || !nameS e.1) = true then none else _) = _
  rw [if_neg (by simp [h1])]
  rw [spS_back h2.1 h2.2.1 h2.2.2]
  show (if badE L e.1 e.2 = true then none else _) = _
  rw [if_neg (by rw [badE_no.mpr h3]; simp)]
theorem law_rest {L : List (Str × Span)} {s : Str} (h1 : nameS s = true) (h2 : s ∉ L.map (·.1)) : itemL (L, none) (restN s) = some (L, some s) := by
  unfold itemL
  rw [split_rest h1]
  show (if ((none : Option Str).isSome || !nameS "rest") = true then none else _) = _
  rw [if_neg (by rw [rest_name]; simp), rdO_name h1]
  show (if (!decide (("rest" : Str) = "rest") || (!nameS s || decide (s ∈ L.map (·.1)))) = true then none else _) = _
  rw [if_neg (by simp [h1]; simpa using h2)]
theorem fold_told {f : RdQ → Str → Option RdQ} (hrow : ∀ {L : List (Str × Span)} {e : Str × Span}, nameS e.1 = true → (okS e.2 = true ∧ smO e.2.1 ∧ smO e.2.2) → (∀ a ∈ L, leS e.1 a.1 = false ∧ meetL a.2 e.2 = false) → f (L, none) (rowN e) = some (L ++ [e], none))
    (hrest : ∀ {L : List (Str × Span)} {s : Str}, nameS s = true → s ∉ L.map (·.1) → f (L, none) (restN s) = some (L, some s)) : ∀ {M L : List (Str × Span)} {r : Option Str}, VN (L ++ M) r → foldI f (itemsN M r) (L, none) = some (L ++ M, r)
  | [], L, none, v => by
    rw [List.append_nil]
    rfl
  | [], L, some s, v => by
    rw [List.append_nil] at v ⊢
    show (f (L, none) (restN s)).bind (foldI f []) = _
    rw [hrest (v.rt s rfl).1 (v.rt s rfl).2]
    rfl
  | e :: M, L, r, v => by
    show (f (L, none) (rowN e)).bind (foldI f (itemsN M r)) = _
    have me : e ∈ L ++ e :: M := List.mem_append_right _ List.mem_cons_self
    rw [hrow (v.nm e me) (v.sp e me) fun a ha => ⟨(List.pairwise_append.mp v.up).2.2 a ha e List.mem_cons_self, (List.pairwise_append.mp v.ap).2.2 a ha e List.mem_cons_self⟩]
    show foldI f (itemsN M r) (L ++ [e], none) = _
    have := fold_told (f := f) hrow hrest (M := M) (L := L ++ [e]) (r := r) (by rw [List.append_assoc]; exact v)
    rw [this, List.append_assoc]
    rfl
theorem split_cat {L : List (Str × Span)} {r : Option Str} (v : VN L r) (h : (L.isEmpty && r.isNone) = false) : Txt.split (catN L r) "; " = itemsN L r ∧ (catN L r == ("empty" : Str)) = false := by
  have hne : itemsN L r ≠ [] := fun z => by
    cases L with
    | nil =>
      cases r with
      | none => cases h
      | some s => cases z
    | cons a b => cases z
  have e1 : Txt.split (catN L r) "; " = itemsN L r := by
    unfold catN
    rw [if_neg (by rw [h]; simp)]
    refine TL.split_join semi_tl semi_k hne fun p hp => ?_
    rcases List.mem_append.mp hp with hp | hp
    · obtain ⟨e, he, rfl⟩ := List.mem_map.mp hp
      exact row_free (v.nm e he)
    · obtain ⟨s, hs, rfl⟩ := List.mem_map.mp hp
      exact rest_free (v.rt s (Option.mem_toList.mp hs)).1
  refine ⟨e1, beq_eq_false_iff_ne.mpr fun z => ?_⟩
  rw [z, show Txt.split ("empty" : Str) "; " = [("empty" : Str)] by decide +kernel] at e1
  have hm : ("empty" : Str) ∈ itemsN L r := by
    rw [← e1]
    exact List.mem_cons_self
  have hsp : 32 ∈ TL.tl ("empty" : Str) := by
    rcases List.mem_append.mp hm with hm | hm
    · obtain ⟨e, _, q⟩ := List.mem_map.mp hm
      rw [← q]
      exact row_sp e
    · obtain ⟨s, _, q⟩ := List.mem_map.mp hm
      rw [← q]
      exact rest_sp s
  exact absurd hsp (by decide +kernel)
theorem law_back {L : List (Str × Span)} {r : Option Str} (v : VN L r) (hl : L.length + r.toList.length ≤ 8) : lawC (catN L r) = some (L, r) := by
  cases h : (L.isEmpty && r.isNone) with
  | true =>
    have : L = [] ∧ r = none := by
      rw [Bool.and_eq_true] at h
      exact ⟨List.isEmpty_iff.mp h.1, Option.isNone_iff_eq_none.mp h.2⟩
    obtain ⟨rfl, rfl⟩ := this
    decide +kernel
  | false =>
    obtain ⟨e1, e2⟩ := split_cat v h
    unfold lawC
    rw [e2, if_neg Bool.false_ne_true, e1, fold_told (f := itemL) law_row law_rest (L := []) v]
    show (if 8 < L.length + r.toList.length then none else some (L, r)) = _
    rw [if_neg (by omega)]
/-! ### the program's reading -/
def putN (L : List (Str × Span)) (k : Str) (s : Span) : List (Str × Span) := if (L.any fun e => decide (e.1 = k)) = true then L.map (fun e => if e.1 = k then (e.1, s) else e) else L ++ [(k, s)]
def itemP (q : RdQ) (x : Str) : Option RdQ := if (decide ((Txt.partition x " ").1 = "rest") && nameS (Txt.partition x " ").2.2) = true then some (q.1, some (Txt.partition x " ").2.2) else (rdO (Txt.partition x " ").2.2).map fun s => (putN q.1 (Txt.partition x " ").1 s, q.2)
theorem itemP_eq (q : RdQ) (x : Str) : itemP q x = if (decide ((Txt.partition x " ").1 = "rest") && nameS (Txt.partition x " ").2.2) = true then some (q.1, some (Txt.partition x " ").2.2) else (rdO (Txt.partition x " ").2.2).map fun s => (putN q.1 (Txt.partition x " ").1 s, q.2) := rfl
def progC (t : Str) : Option RdQ := if (t == ("empty" : Str)) = true then some ([], none) else foldI itemP (Txt.split t "; ") ([], none)
theorem leS_refl (a : Str) : leS a a = true := (leS_iff a a).mpr (List.le_refl _)
theorem prog_row {L : List (Str × Span)} {e : Str × Span} (h1 : nameS e.1 = true) (h2 : okS e.2 = true ∧ smO e.2.1 ∧ smO e.2.2) (h3 : ∀ a ∈ L, leS e.1 a.1 = false ∧ meetL a.2 e.2 = false) : itemP (L, none) (rowN e) = some (L ++ [e], none) := by
  have hp : Txt.partition (rowN e) " " = (e.1, (" " : Str), spS e.2) := TL.partition_app spC_tl (name_freeC h1 (by decide))
  have hn : nameS (spS e.2) = false := by
    cases q : nameS (spS e.2) with
    | false => rfl
    | true => exact absurd (spS_dot e.2) (name_freeC q (by decide))
  have hne : (L.any fun a => decide (a.1 = e.1)) = false := by
    rw [List.any_eq_false]
    intro a ha z
    have := (h3 a ha).1
    rw [of_decide_eq_true z, leS_refl] at this
    cases this
  unfold itemP
  rw [hp]
  show (if (decide (e.1 = "rest") && nameS (spS e.2)) = true then _ else (rdO (spS e.2)).map _) = _
  rw [hn, Bool.and_false, if_neg Bool.false_ne_true, spS_back h2.1 h2.2.1 h2.2.2]
  show some (putN L e.1 e.2, none) = _
  unfold putN
  rw [hne, if_neg Bool.false_ne_true]
theorem prog_rest {L : List (Str × Span)} {s : Str} (h1 : nameS s = true) (_ : s ∉ L.map (·.1)) : itemP (L, none) (restN s) = some (L, some s) := by
  have hp : Txt.partition (restN s) " " = (("rest" : Str), (" " : Str), s) := TL.partition_app spC_tl (name_freeC rest_name (by decide))
  unfold itemP
  rw [hp]
  show (if (decide (("rest" : Str) = "rest") && nameS s) = true then _ else _) = _
  rw [h1, decide_eq_true rfl, Bool.and_self, if_pos rfl]
theorem prog_back {L : List (Str × Span)} {r : Option Str} (v : VN L r) : progC (catN L r) = some (L, r) := by
  cases h : (L.isEmpty && r.isNone) with
  | true =>
    have : L = [] ∧ r = none := by
      rw [Bool.and_eq_true] at h
      exact ⟨List.isEmpty_iff.mp h.1, Option.isNone_iff_eq_none.mp h.2⟩
    obtain ⟨rfl, rfl⟩ := this
    decide +kernel
  | false =>
    obtain ⟨e1, e2⟩ := split_cat v h
    unfold progC
    rw [e2, if_neg Bool.false_ne_true, e1, fold_told (f := itemP) prog_row prog_rest (L := []) v]
    rfl
/-- what the law reads, the program parses -/
theorem law_prog {t : Str} {L : List (Str × Span)} {r : Option Str} (h : lawC t = some (L, r)) : progC t = some (L, r) := by
  obtain ⟨v, _, e⟩ := law_told h
  rw [← e]
  exact prog_back v
/-- the limits that are read are short -/
theorem put_mem {L : List (Str × Span)} {k : Str} {s : Span} {e : Str × Span} (h : e ∈ putN L k s) : e.2 = s ∨ e ∈ L := by
  unfold putN at h
  split at h
  · obtain ⟨a, ha, rfl⟩ := List.mem_map.mp h
    split
    · exact .inl rfl
    · exact .inr ha
  · rcases List.mem_append.mp h with h | h
    · exact .inr h
    · rw [List.mem_singleton.mp h]
      exact .inl rfl
theorem fold_prog : ∀ {xs : List Str} {q q' : RdQ}, foldI itemP xs q = some q' → (∀ e ∈ q.1, okS e.2 = true ∧ smO e.2.1 ∧ smO e.2.2) → ∀ e ∈ q'.1, okS e.2 = true ∧ smO e.2.1 ∧ smO e.2.2
  | [], q, q', h, v => by
    cases h
    exact v
  | x :: xs, q, q', h, v => by
    have h : (itemP q x).bind (foldI itemP xs) = some q' := h
    obtain ⟨q1, h1, h2⟩ := Option.bind_eq_some_iff.mp h
    refine fold_prog h2 ?_
    unfold itemP at h1
    split at h1
    · cases h1
      exact v
    · obtain ⟨s, hs, rfl⟩ := Option.map_eq_some_iff.mp h1
      intro e he
      rcases put_mem he with e1 | e1
      · rw [e1]
        exact (rdO_text hs).2
      · exact v e e1
theorem catS_N {rs : List Row} {rt : Option Str} : catS rs rt = catN ((sortR rs).map nsr) rt := by
  have er : ∀ r : Row, rowT r = rowN (nsr r) := fun r => by
    unfold rowT
    rw [emp_app]
    rfl
  have es : ∀ s : Str, restT s = restN s := fun s => by
    unfold restT restN
    rw [emp_app]
    exact congrArg (· ++ s) (by decide +kernel)
  have ei : ((sortR rs).map rowT ++ rt.toList.map restT) = itemsN ((sortR rs).map nsr) rt := by
    unfold itemsN
    rw [List.map_map]
    exact congr (congrArg _ (List.map_congr_left fun r _ => er r)) (List.map_congr_left fun s _ => es s)
  have ee : (nmsC rs rt).isEmpty = (((sortR rs).map nsr).isEmpty && rt.isNone) := by
    have h1 : (nmsC rs rt).length = rs.length + rt.toList.length := by
      unfold nmsC
      rw [srt_len, List.length_append, List.length_map]
    have h2 : ((sortR rs).map nsr).length = rs.length := by rw [List.length_map, sortR_len]
    rw [Bool.eq_iff_iff, Bool.and_eq_true, List.isEmpty_iff_length_eq_zero, List.isEmpty_iff_length_eq_zero, h1, h2]
    cases rt <;> simp
  unfold catS catN
  rw [ee, ei]
def tOkC (t : Str) : Prop := t.length ≤ 1000 ∧ PyData.strOk t = true
/-- rows that a catalog holds -/
structure PV (rs : List Row) (rt : Option Str) : Prop where
  vn : VN ((sortR rs).map nsr) rt
  len : rs.length + rt.toList.length ≤ 8
  nd : (rs.map (·.1)).Nodup
def sp_parsedC (K : PySem.W.Frag) (C : Addr) (Cs : Nat → Addr) (CT P : Addr) : Sp := fun vs H Q E => ∃ t : Str, vs = [.str t] ∧ tOkC t ∧ (Txt.split t "; ").length ≤ 60 ∧ LamX.TabS H P lamQ ∧
  (lawC t = none → (∀ v, Rz H E CT "value" v) ∧ ∀ q : Nat × V, q.1 ≤ 5 → ExC [] H E Cs q) ∧
  ∀ (x : Addr) (rs : List Row) (rt : Option Str) (H' : Hp), progC t = some (rs.map nsr, rt) → PV rs rt → EX [] H H' → LamX.TabS H' P lamQ → CatNew K C H H' x rs rt → Q (.ref x) H'
theorem tOkC_sub {w t : Str} (ht : tOkC t) (h1 : (TL.tl w).length ≤ (TL.tl t).length) (h2 : ∀ c ∈ TL.tl w, c ∈ TL.tl t) : tOkC w := ⟨by have := ht.1; rw [TL.len_tl] at this ⊢; omega, strOk_iff.mpr fun c hc => strOk_iff.mp ht.2 c (h2 c hc)⟩
theorem joinL_mem (S : List Nat) : ∀ {parts : List (List Nat)} {p : List Nat}, p ∈ parts → p.length ≤ (TL.joinL S parts).length ∧ ∀ c ∈ p, c ∈ TL.joinL S parts
  | [q], p, h => by
    rw [List.mem_singleton.mp h]
    exact ⟨Nat.le_refl _, fun c hc => hc⟩
  | q :: q2 :: r, p, h => by
    show p.length ≤ (q ++ (S ++ TL.joinL S (q2 :: r))).length ∧ ∀ c ∈ p, c ∈ q ++ (S ++ TL.joinL S (q2 :: r))
    rcases List.mem_cons.mp h with rfl | h
    · exact ⟨by rw [List.length_append]; omega, fun c hc => List.mem_append_left _ hc⟩
    · obtain ⟨h1, h2⟩ := joinL_mem S h
      refine ⟨by rw [List.length_append, List.length_append]; omega, fun c hc => List.mem_append_right _ (List.mem_append_right _ (h2 c hc))⟩
theorem split_okC {t w : Str} (ht : tOkC t) (h : w ∈ Txt.split t "; ") : tOkC w := by
  have e : TL.tl t = TL.joinL (TL.tl ("; " : Str)) ((Txt.split t "; ").map TL.tl) := by
    rw [← TL.tl_join, ← TL.join_eq, join_semi]
  obtain ⟨h1, h2⟩ := joinL_mem (TL.tl ("; " : Str)) (List.mem_map.mpr ⟨w, h, rfl⟩)
  rw [← e] at h1 h2
  exact tOkC_sub ht h1 h2
theorem part_okC {t : Str} (ht : tOkC t) : tOkC (Txt.partition t " ").1 ∧ tOkC (Txt.partition t " ").2.2 := by
  rw [TL.partition_par t " " (by rw [spC_tl]; simp)]
  cases hq : TL.par (TL.tl (" " : Str)) [] (TL.tl t) with
  | none => exact ⟨ht, (⟨by decide +kernel, by decide +kernel⟩ : tOkC Str.empty)⟩
  | some q =>
    obtain ⟨a, b⟩ := q
    have hx := par_appC hq
    rw [List.nil_append] at hx
    constructor
    · refine tOkC_sub (w := ⟨a.toArray⟩) ht ?_ fun c hc => ?_
      · rw [hx]
        show a.length ≤ _
        rw [List.length_append, List.length_append]
        omega
      · rw [hx]
        exact List.mem_append_left _ (List.mem_append_left _ hc)
    · refine tOkC_sub (w := ⟨b.toArray⟩) ht ?_ fun c hc => ?_
      · rw [hx]
        show b.length ≤ _
        rw [List.length_append, List.length_append]
        omega
      · rw [hx]
        exact List.mem_append_right _ hc
theorem tOkC_vd {K : PySem.W.Frag} {H : Hp} {t : Str} (h : tOkC t) : VD K H (.str t) (some (.str t)) := vd_key (k := .inr t) h
/-! rows put into a dict -/
def putRow (rs : List Row) (k : Str) (a : Addr) (s : Span) : List Row := if (rs.any fun e => decide (e.1 = k)) = true then rs.map (fun e => if e.1 = k then (e.1, a, s) else e) else rs ++ [(k, a, s)]
theorem putRow_nsr (rs : List Row) (k : Str) (a : Addr) (s : Span) : (putRow rs k a s).map nsr = putN (rs.map nsr) k s := by
  unfold putRow putN
  have e1 : ((rs.map nsr).any fun e => decide (e.1 = k)) = rs.any fun e => decide (e.1 = k) := by
    rw [List.any_map]
    rfl
  rw [e1]
  split
  · rw [List.map_map, List.map_map]
    refine List.map_congr_left fun r _ => ?_
    show nsr (if r.1 = k then (r.1, a, s) else r) = if (nsr r).1 = k then ((nsr r).1, s) else nsr r
    by_cases h : r.1 = k
    · rw [if_pos h, if_pos (show (nsr r).1 = k from h)]
      rfl
    · rw [if_neg h, if_neg (show ¬ (nsr r).1 = k from h)]
  · rw [List.map_append]
    rfl
theorem putRow_kv (rs : List Row) (k : Str) (a : Addr) (s : Span) : (putRow rs k a s).map rKV = putK (rs.map rKV) (.inr k) (.ref a) := by
  unfold putRow putK
  have e1 : ((rs.map rKV).any fun kv => decide (kv.1 = (.inr k : Key))) = rs.any fun e => decide (e.1 = k) := by
    rw [List.any_map]
    refine congrArg (fun f => rs.any f) (funext fun r => ?_)
    show decide ((Sum.inr r.1 : Key) = Sum.inr k) = decide (r.1 = k)
    rw [Bool.eq_iff_iff, decide_eq_true_iff, decide_eq_true_iff]
    exact ⟨Sum.inr.inj, fun h => by rw [h]⟩
  rw [e1]
  split
  · rw [List.map_map, List.map_map]
    refine List.map_congr_left fun r _ => ?_
    show rKV (if r.1 = k then (r.1, a, s) else r) = if (Sum.inr r.1 : Key) = Sum.inr k then ((rKV r).1, V.ref a) else rKV r
    by_cases h : r.1 = k
    · rw [if_pos h, if_pos (congrArg Sum.inr h)]
      rfl
    · rw [if_neg h, if_neg fun z => h (Sum.inr.inj z)]
  · rw [List.map_append]
    rfl
theorem putRow_nd {rs : List Row} (h : (rs.map (·.1)).Nodup) (k : Str) (a : Addr) (s : Span) : ((putRow rs k a s).map (·.1)).Nodup := by
  unfold putRow
  split
  · rw [List.map_map]
    have : rs.map ((fun r : Row => r.1) ∘ fun e => if e.1 = k then (e.1, a, s) else e) = rs.map (·.1) := List.map_congr_left fun r _ => by
      show (if r.1 = k then (r.1, a, s) else r).1 = r.1
      split <;> rfl
    rw [this]
    exact h
  · rename_i hk
    rw [List.map_append]
    refine List.nodup_append.mpr ⟨h, by simp, fun x hx y hy z => hk ?_⟩
    rw [List.mem_singleton.mp hy] at z
    obtain ⟨r, hr, e⟩ := List.mem_map.mp hx
    exact List.any_eq_true.mpr ⟨r, hr, decide_eq_true (e.trans z)⟩
theorem putRow_mem {rs : List Row} {k : Str} {a : Addr} {s : Span} {r : Row} (h : r ∈ putRow rs k a s) : r = (k, a, s) ∨ r ∈ rs := by
  unfold putRow at h
  split at h
  · obtain ⟨x, hx, rfl⟩ := List.mem_map.mp h
    by_cases e : x.1 = k
    · rw [if_pos e, e]
      exact .inl rfl
    · rw [if_neg e]
      exact .inr hx
  · rcases List.mem_append.mp h with h | h
    · exact .inr h
    · exact .inl (List.mem_singleton.mp h)
theorem putRow_len (rs : List Row) (k : Str) (a : Addr) (s : Span) : (putRow rs k a s).length ≤ rs.length + 1 := by
  unfold putRow
  split
  · rw [List.length_map]
    omega
  · rw [List.length_append]
    exact Nat.le_refl _
/-! rows that a catalog takes -/
theorem ovlR_pw : ∀ {t acc : List Row}, ovlR acc t = none → (∀ a ∈ acc, ∀ r ∈ t, meetB a.2.2 r.2.2 = false) ∧ t.Pairwise fun a b => meetB a.2.2 b.2.2 = false
  | [], acc, _ => ⟨fun _ _ _ h => (List.not_mem_nil h).elim, .nil⟩
  | r :: t, acc, h => by
    rw [ovlR_step] at h
    split at h
    · cases h
    · rename_i hn
      obtain ⟨h1, h2⟩ := ovlR_pw h
      have hn : ∀ a ∈ acc, meetB a.2.2 r.2.2 = false := fun a ha => by
        cases e : meetB a.2.2 r.2.2 with
        | false => rfl
        | true => exact absurd (List.any_eq_true.mpr ⟨a, ha, e⟩) hn
      refine ⟨fun a ha x hx => ?_, List.pairwise_cons.mpr ⟨fun x hx => h1 r (List.mem_append_right _ List.mem_cons_self) x hx, h2⟩⟩
      rcases List.mem_cons.mp hx with rfl | hx
      · exact hn a ha
      · exact h1 a (List.mem_append_left _ ha) x hx
theorem vn_good {L : List (Str × Span)} {r : Option Str} (v : VN L r) (hl : L.length + r.toList.length ≤ 8) : goodL L r = true := by
  unfold goodL
  simp only [Bool.and_eq_true, decide_eq_true_iff]
  refine ⟨List.all_eq_true.mpr fun e he => by rw [Bool.and_eq_true]; exact ⟨v.nm e he, (v.sp e he).1⟩, ?_, v.ap, hl, ?_⟩
  · unfold List.Nodup
    rw [List.pairwise_map]
    refine v.up.imp fun {a b} h e => ?_
    rw [← e, leS_refl] at h
    cases h
  · cases r with
    | none => rfl
    | some s =>
      obtain ⟨h1, h2⟩ := v.rt s rfl
      show (nameS s && !decide (s ∈ L.map (·.1))) = true
      rw [h1, decide_eq_false h2]
      rfl
theorem pv_of {rs : List Row} {rt : Option Str} (hnd : (rs.map (·.1)).Nodup) (hsp : ∀ r ∈ rs, okS r.2.2 = true ∧ smO r.2.2.1 ∧ smO r.2.2.2) (hrt : ∀ s, rt = some s → nameS s = true) (h : catF (rs.map rE) (rvO rt) (some (rtD rt)) = none) : PV rs rt := by
  have hF : rsF (rs.map rE) = none := by
    cases e : rsF (rs.map rE) with
    | none => rfl
    | some q => rw [catF_of e] at h; cases h
  have hg := rsF_good (rows_nodK hnd) hF
  have hn : ∀ r ∈ rs, nameS r.1 = true := fun r hr => by
    have := hg (rE r) (List.mem_map.mpr ⟨r, hr, rfl⟩)
    unfold goodE at this
    rw [Bool.and_eq_true] at this
    exact this.1
  rw [catF_go hF, rowsE_rows] at h
  have ho : ovl rs = none := by
    cases e : ovl rs with
    | none => rfl
    | some y => rw [catR_ovl e] at h; cases h
  rw [catR_go ho] at h
  obtain ⟨_, hpw⟩ := ovlR_pw ho
  have hsm : ∀ r ∈ sortR rs, r ∈ rs := fun r hr => sortR_mem hr
  have hlen : rs.length + rt.toList.length ≤ 8 ∧ ∀ s, rt = some s → s ∉ rs.map (·.1) := by
    cases rt with
    | none =>
      have h : (if 8 < (rs.map (·.1)).length then some (5, V.int 8) else none) = none := h
      rw [List.length_map] at h
      split at h
      · cases h
      · exact ⟨by show rs.length + 0 ≤ 8; omega, fun s e => by cases e⟩
    | some s =>
      have hs := hrt s rfl
      unfold restR at h
      have e1 : nonO (some (rtD (some s))) = false := rfl
      have e2 : nameO (some (rtD (some s))) = true := hs
      rw [e1, if_neg Bool.false_ne_true, e2, if_neg (by decide)] at h
      split at h
      · cases h
      · rename_i hin
        split at h
        · cases h
        · rename_i hl
          rw [List.length_map] at hl
          refine ⟨by show rs.length + 1 ≤ 8; omega, fun s' e => ?_⟩
          cases e
          intro z
          exact hin (decide_eq_true z)
  refine ⟨⟨fun e he => ?_, fun e he => ?_, ?_, ?_, fun s e => ⟨hrt s e, fun z => hlen.2 s e ?_⟩⟩, hlen.1, hnd⟩
  · obtain ⟨r, hr, rfl⟩ := List.mem_map.mp he
    exact hn r (hsm r hr)
  · obtain ⟨r, hr, rfl⟩ := List.mem_map.mp he
    exact hsp r (hsm r hr)
  · have h1 := srt_pw (rs.map (·.1))
    have h2 := srt_nodup hnd
    rw [← sortR_names] at h1 h2
    have h3 := h1.and h2
    rw [List.pairwise_map] at h3 ⊢
    refine h3.imp fun {a b} h => ?_
    cases e : leS b.1 a.1 with
    | false => exact e
    | true => exact absurd (leS_anti h.1 e) h.2
  · rw [List.pairwise_map]
    refine (List.pairwise_iff_forall_sublist.mpr fun {a b} hab => ?_)
    have hm := List.pairwise_iff_forall_sublist.mp hpw hab
    have ha := (hsp a (hsm a (hab.subset List.mem_cons_self))).1
    have hb := (hsp b (hsm b (hab.subset (List.mem_cons_of_mem _ List.mem_cons_self)))).1
    show meetL a.2.2 b.2.2 = false
    rw [meetL_eq ha hb]
    exact hm
  · rw [List.map_map] at z
    have : (sortR rs).map ((fun e : Str × Span => e.1) ∘ nsr) = (sortR rs).map (·.1) := rfl
    rw [this, sortR_names] at z
    exact srt_mem.mp z
/-- what the law reads makes a catalog -/
theorem law_makes {t : Str} {rs : List Row} {rt : Option Str} {q : RdQ} (hl : lawC t = some q) (hp : progC t = some (rs.map nsr, rt)) : catF (rs.map rE) (rvO rt) (some (rtD rt)) = none := by
  obtain ⟨L, r⟩ := q
  obtain ⟨v, h8, _⟩ := law_told hl
  have e := (law_prog hl).symm.trans hp
  cases e
  obtain ⟨n1, n2, _, _, n5⟩ := catL (vn_good v h8) (rs := rs) rfl
  have hF : rsF (rs.map rE) = none := rsF_of_good (rows_nodK n1) fun e he => by
    obtain ⟨r', hr', rfl⟩ := List.mem_map.mp he
    unfold goodE
    rw [Bool.and_eq_true]
    refine ⟨(n2 r' hr').1, ?_⟩
    have : spanO (some (spD r'.2.2)) = okS r'.2.2 := spanO_ok _
    exact this.trans (n2 r' hr').2
  rw [catF_go hF, rowsE_rows]
  exact n5
theorem law_rows {t : Str} {rs : List Row} {rt : Option Str} (v : PV rs rt) (h : catN ((sortR rs).map nsr) rt = t) : lawC t = some ((sortR rs).map nsr, rt) := by
  rw [← h]
  exact law_back v.vn (by rw [List.length_map, sortR_len]; exact v.len)
/-- what the law reads, told by the catalog's text -/
theorem law_same {t : Str} {rs : List Row} {rt : Option Str} {q : RdQ} (hl : lawC t = some q) (hp : progC t = some (rs.map nsr, rt)) (v : PV rs rt) : catN ((sortR rs).map nsr) rt = t := by
  obtain ⟨L, r⟩ := q
  obtain ⟨v1, h8, e1⟩ := law_told hl
  have e := (law_prog hl).symm.trans hp
  cases e
  rw [← e1]
  have : sortR rs = rs := by
    refine List.Perm.eq_of_pairwise (le := fun a b => leS a.1 b.1 = true) (fun a b ha hb h1 h2 => ?_) ?_ ?_ (sortR_perm v.nd)
    · have : a.1 = b.1 := leS_anti h1 h2
      rw [← rowOf_self v.nd a (sortR_mem ha), ← rowOf_self v.nd b hb, this]
    · have h1 := srt_pw (rs.map (·.1))
      rw [← sortR_names, List.pairwise_map] at h1
      exact h1
    · have h1 := v1.up
      rw [List.pairwise_map] at h1
      refine h1.imp fun {a b} h => ?_
      have := leS_tot a.1 b.1
      have h : leS b.1 a.1 = false := h
      rw [h, Bool.or_false] at this
      exact this
  rw [this]
def RzE (H : Hp) (P : Addr) (E : XK) (C : Addr) (f : Str) (v : V) : Prop := ∀ (d : Addr) (H' : Hp), H' d = some (.xd [(f, v)]) → EX [] H H' → LamX.TabS H' P lamQ → E (.ref C) (some d) H'
theorem RzE.rz {H H1 : Hp} {P : Addr} {E : XK} {C : Addr} {f : Str} {v : V} (e : EX [] H H1) (t : LamX.TabS H1 P lamQ) (h : RzE H P E C f v) : Rz H1 E C f v := fun d H' _ x s => h d H' x (e.trans (.same s)) (t.ext s)
/-- data, a dict, or a catalog -/
def RV9 (K : PySem.W.Frag) (C : Addr) (H : Hp) (v : V) (o : Option PyData) : Prop := VD K H v o ∨ (o = none ∧ ∃ a dx fs, v = .ref a ∧ H a = some (.ins C dx fs))
theorem RV9.mono {K : PySem.W.Frag} {C : Addr} {H H' : Hp} {v : V} {o : Option PyData} (s : Same H H') (h : RV9 K C H v o) : RV9 K C H' v o := by
  rcases h with h | ⟨e, a, dx, fs, e2, h⟩
  · exact .inl (h.mono s)
  · exact .inr ⟨e, a, dx, fs, e2, s _ _ h⟩
theorem RV9.sure {K : PySem.W.Frag} {C : Addr} {H : Hp} {v : V} {o : Option PyData} (h : RV9 K C H v o) : sureV v = true := by
  rcases h with h | ⟨_, a, _, _, rfl, _⟩
  · exact h.sure
  · rfl
def sp_readC (K : PySem.W.Frag) (C CT P : Addr) : Sp := fun vs H Q E => ∃ (v : V) (o : Option PyData), vs = [v] ∧ RV9 K C H v o ∧ LamX.TabS H P lamQ ∧ (∀ t, o = some (.str t) → tOkC t ∧ (Txt.split t "; ").length ≤ 60) ∧ ((∀ t, o = some (.str t) → lawC t = none) → RzE H P E CT "value" v) ∧
  ∀ (t : Str) (x : Addr) (rs : List Row) (rt : Option Str) (H' : Hp), o = some (.str t) → lawC t = some ((sortR rs).map nsr, rt) → PV rs rt → catS rs rt = t → EX [] H H' → LamX.TabS H' P lamQ → CatAt K C H' x rs rt → Q (.ref x) H'
theorem PV.sm {rs : List Row} {rt : Option Str} (v : PV rs rt) : ∀ r ∈ rs, smO r.2.2.1 ∧ smO r.2.2.2 := fun r hr => (v.vn.sp (nsr r) (List.mem_map.mpr ⟨r, (sortR_perm v.nd).mem_iff.mpr hr, rfl⟩)).2
/-! ### the law's defs -/
def sp_lisname (K : PySem.W.Frag) : Sp := fun vs H Q _ => ∃ t : Str, vs = [.str t] ∧ tOkC t ∧ ∀ H', Same H H' → Q (.bl (nameS t)) H'
def sp_law_number (K : PySem.W.Frag) : Sp := fun vs H Q _ => ∃ w : Str, vs = [.str w] ∧ w.length ≤ 1000 ∧ PyData.strOk w = true ∧ ∀ H', Same H H' → Q (limV (numO (tl w))) H'
def sp_lspan9 (K : PySem.W.Frag) : Sp := fun vs H Q _ => ∃ x : Str, vs = [.str x] ∧ x.length ≤ 1000 ∧ PyData.strOk x = true ∧ Txt.find x ".." ≠ -1 ∧ (rdO x = none → ∀ H', Same H H' → Q .non H') ∧ ∀ s : Span, rdO x = some s → ∀ p H', Same H H' → H p = none → H' p = some (.tup (spV s)) → Q (.ref p) H'
def semi (t : Str) : Nat := (TL.tl t).count 59
theorem spl_count : ∀ (L acc : List Nat) (k : Nat), (TL.spl [59, 32] k acc L).length ≤ L.count 59 + 1
  | [], acc, k => by rw [TL.spl_nil]; simp
  | c :: r, acc, k => by
    have hc : r.count 59 ≤ (c :: r).count 59 := List.count_le_count_cons
    cases k with
    | zero =>
      cases hp : TL.pre [59, 32] (c :: r) with
      | true =>
        rw [TL.spl_hit hp, List.length_cons]
        have := spl_count r [] ([59, 32].length - 1)
        have e : c = 59 := by
          have h : (c :: r).take 2 = [59, 32] := eq_of_beq hp
          cases r with
          | nil => cases h
          | cons a b => cases h; rfl
        have h2 : (c :: r).count 59 = r.count 59 + 1 := by
          rw [e]
          exact List.count_cons_self
        omega
      | false =>
        rw [TL.spl_miss hp]
        have := spl_count r (acc ++ [c]) 0
        omega
    | succ k =>
      have := spl_count r acc k
      have h : TL.spl [59, 32] (k + 1) acc (c :: r) = TL.spl [59, 32] k acc r := rfl
      rw [h]
      omega
theorem split_semi (t : Str) : (Txt.split t "; ").length ≤ semi t + 1 := by
  have h := TL.split_spl t "; " (by rw [semi_tl]; simp) (TL.kind_ok semi_k)
  have h2 := congrArg List.length h
  rw [List.length_map, semi_tl] at h2
  rw [h2]
  exact spl_count _ _ _
theorem semi_app (a b : Str) : semi (a ++ b) = semi a + semi b := by
  unfold semi
  rw [TL.tl_append, List.count_append]
theorem cutL_tl (x : Str) (i : Nat) : TL.tl (cutS x none (some (i : Int))) = (TL.tl x).take i := by
  show (x.cps.toList.drop (HT.sIx x.length 0 none)).take (HT.sIx x.length x.length (some (i : Int)) - HT.sIx x.length 0 none) = x.cps.toList.take i
  rw [HT.sIx_none, HT.sIx_nat, List.drop_zero, Nat.sub_zero]
  have : x.length = x.cps.toList.length := TL.len_tl x
  rw [this]
  by_cases h : i ≤ x.cps.toList.length
  · rw [Nat.min_eq_left h]
  · rw [Nat.min_eq_right (by omega), List.take_length, List.take_of_length_le (by omega)]
theorem cutR_tl (x : Str) (i : Nat) : TL.tl (cutS x (some (i : Int)) none) = (TL.tl x).drop i := by
  show (x.cps.toList.drop (HT.sIx x.length 0 (some (i : Int)))).take (HT.sIx x.length x.length none - HT.sIx x.length 0 (some (i : Int))) = x.cps.toList.drop i
  rw [HT.sIx_none, HT.sIx_nat]
  have : x.length = x.cps.toList.length := TL.len_tl x
  rw [this]
  by_cases h : i ≤ x.cps.toList.length
  · rw [Nat.min_eq_left h]
    exact List.take_of_length_le (by rw [List.length_drop]; exact Nat.le_refl _)
  · rw [Nat.min_eq_right (by omega), List.drop_length, List.drop_of_length_le (by omega), List.take_nil]
theorem semi_cut (x : Str) (i : Nat) : semi (cutS x none (some (i : Int))) + semi (cutS x (some (i : Int)) none) = semi x ∧ semi (cutS x (some ((i + 1 : Nat) : Int)) none) ≤ semi (cutS x (some (i : Int)) none) := by
  unfold semi
  rw [cutL_tl, cutR_tl, cutR_tl]
  constructor
  · rw [← List.count_append, List.take_append_drop]
  · refine List.Sublist.count_le _ ?_
    rw [← List.drop_drop]
    exact List.drop_sublist _ _
theorem cutl (x : Str) (i : Nat) : (cutS x none (some (i : Int))).length ≤ i := by
  rw [TL.len_tl, cutL_tl, List.length_take]
  omega
theorem cutr (x : Str) (j : Nat) : (cutS x (some (j : Int)) none).length ≤ x.length - j := by
  rw [TL.len_tl, cutR_tl, List.length_drop, ← TL.len_tl]
  exact Nat.le_refl _
def sp_lbent9 : Sp := fun vs H Q _ => ∃ (H0 : Hp) (p : Addr) (n : Nat) (t : Str), vs = [.ref p, .str t] ∧ BoxIn H0 H p n ∧ tOkC t ∧ t.length ≤ 950 ∧ n + 3 < 1000000 ∧
  ∀ (H' : Hp) (u : Str), BoxIn H0 H' p (n + 3) → tOkC u → u.length ≤ t.length + 8 → semi u ≤ semi t + 1 → Q (.str u) H'
def sp_ltext9 : Sp := fun vs H Q _ => ∃ (q : Addr) (rr : List MRow) (rt : Option Str), vs = [.ref q] ∧ MG H q rr rt ∧ G8 rr rt ∧ (∀ r ∈ rr, smO r.2.2.2.1 ∧ smO r.2.2.2.2) ∧ ∀ H', Same H H' → Q (.str (catN ((sortR (rowsM rr)).map nsr) rt)) H'
/-- what is read, as the law holds it -/
def RdAt (H : Hp) (q : Addr) (z : RdQ) : Prop := ∃ (lr : Addr) (rr : List MRow), H q = some (.lst [.ref lr, rvO z.2]) ∧ H lr = some (.lst (rr.map fun r => V.ref r.1)) ∧ (∀ r ∈ rr, rowAt H r) ∧ rr.map nsp = z.1
def sp_lread9 : Sp := fun vs H Q _ => ∃ t : Str, vs = [.str t] ∧ tOkC t ∧ (lawC t = none → ∀ H', Same H H' → Q .non H') ∧ ∀ z, lawC t = some z → ∀ (H' : Hp) (q : Addr), Same H H' → RdAt H' q z → Q (.ref q) H'
def sp_ltold9 (K : PySem.W.Frag) (C P : Addr) : Sp := fun vs H Q _ => ∃ (v : V) (o : Option PyData), vs = [v] ∧ RV9 K C H v o ∧ LamX.TabS H P lamQ ∧ (∀ t, o = some (.str t) → tOkC t ∧ (Txt.split t "; ").length ≤ 60) ∧
  ((∀ t, o = some (.str t) → lawC t = none) → ∀ (H' : Hp) (p : Addr), EX [] H H' → LamX.TabS H' P lamQ → H' p = some (.lst [.str "text", v]) → Q (.ref p) H') ∧
  ∀ (t : Str) (x : Addr) (rs : List Row) (rt : Option Str) (H' : Hp) (p : Addr), o = some (.str t) → lawC t = some ((sortR rs).map nsr, rt) → PV rs rt → catS rs rt = t → EX [] H H' → LamX.TabS H' P lamQ → CatAt K C H' x rs rt → H' p = some (.lst [.str "read", .ref x]) → Q (.ref p) H'
/-- a pair that stands on the heap -/
def decT (H : Hp) : V → Str × V
  | .ref t => match H t with
    | some (.tup [.str s, z]) => (s, z)
    | _ => (Str.empty, .non)
  | _ => (Str.empty, .non)
theorem decT_of {H : Hp} {t : Addr} {s : Str} {z : V} (h : H t = some (.tup [.str s, z])) : decT H (.ref t) = (s, z) := by
  show (match H t with
    | some (.tup [.str s, z]) => (s, z)
    | _ => (Str.empty, .non)) = _
  rw [h]
/-- rows in the order of their names -/
theorem sortR_uniq {rs m : List Row} (hp : m.Perm rs) (hnd : (rs.map (·.1)).Nodup) (h : (m.map (·.1)).Pairwise fun a b => leS a b = true) : m = sortR rs := by
  have hn : (m.map (·.1)).Nodup := (hp.map _).nodup_iff.mpr hnd
  refine List.Perm.eq_of_pairwise (le := fun a b => leS a.1 b.1 = true) (fun a b ha hb h1 h2 => ?_) ?_ ?_ (hp.trans (sortR_perm hnd).symm)
  · have e : a.1 = b.1 := leS_anti h1 h2
    rw [← rowOf_self hnd a (hp.mem_iff.mp ha), ← rowOf_self hnd b (sortR_mem hb), e]
  · rw [List.pairwise_map] at h
    exact h
  · have h1 := srt_pw (rs.map (·.1))
    rw [← sortR_names, List.pairwise_map] at h1
    exact h1
theorem paired_right {α β γ : Type} {R : α → β → Prop} {f : α → γ} {g : β → γ} (h : ∀ a b, R a b → f a = g b) : ∀ {l : List α} {m : List β}, PySem.Paired R l m → l.map f = m.map g
  | _, _, .nil => rfl
  | _, _, .cons a t => by
    rw [List.map_cons, List.map_cons, h _ _ a, paired_right h t]
theorem paired_ref {H : Hp} : ∀ {ts : List Addr} {m : List Row}, PySem.Paired (fun a (r : Row) => H a = some (.tup [.str r.1, .ref r.2.1])) ts m → PySem.Paired (fun (y : V) (r : Row) => ∃ t, y = .ref t ∧ H t = some (.tup [.str r.1, .ref r.2.1])) (ts.map V.ref) m
  | _, _, .nil => .nil
  | _, _, .cons a t => .cons ⟨_, rfl, a⟩ (paired_ref t)
theorem paired_memL {α β : Type} {R : α → β → Prop} : ∀ {l : List α} {m : List β}, PySem.Paired R l m → ∀ x ∈ l, ∃ y ∈ m, R x y
  | _, _, .nil, x, h => by cases h
  | _, _, .cons a t, x, h => by
    rcases List.mem_cons.mp h with rfl | h
    · exact ⟨_, List.mem_cons_self, a⟩
    · obtain ⟨y, hy, r⟩ := paired_memL t x h
      exact ⟨y, List.mem_cons_of_mem _ hy, r⟩
theorem paired_at {α β : Type} {R : α → β → Prop} : ∀ {l : List α} {m : List β}, PySem.Paired R l m → ∀ {i : Nat} {x : α}, l[i]? = some x → ∃ y, m[i]? = some y ∧ R x y
  | _, _, .nil, i, x, h => by simp at h
  | _, _, .cons a t, i, x, h => by
    cases i with
    | zero => cases h; exact ⟨_, rfl, a⟩
    | succ i => exact paired_at t (i := i) h
theorem nodup_map_inj {α β : Type} {f : α → β} : ∀ {l : List α}, (l.map f).Nodup → ∀ {x y : α}, x ∈ l → y ∈ l → f x = f y → x = y
  | a :: l, h, x, y, hx, hy, e => by
    obtain ⟨h1, h2⟩ := List.nodup_cons.mp (show (f a :: l.map f).Nodup from h)
    rcases List.mem_cons.mp hx with h3 | h3
    · rcases List.mem_cons.mp hy with h4 | h4
      · rw [h3, h4]
      · exact absurd (List.mem_map.mpr ⟨y, h4, by rw [← e, h3]⟩) h1
    · rcases List.mem_cons.mp hy with h4 | h4
      · exact absurd (List.mem_map.mpr ⟨x, h3, by rw [e, h4]⟩) h1
      · exact nodup_map_inj h2 h3 h4 e
theorem rowN_ok {e : Str × Span} (h : nameS e.1 = true) (h1 : smO e.2.1) (h2 : smO e.2.2) : sOk 80 (rowN e) := by
  have a : sOk 8 e.1 := ⟨nameC_len h, nameC_ok h⟩
  have b : sOk 1 (" " : Str) := ⟨by decide +kernel, by decide +kernel⟩
  exact ((a.app b).app (spS_ok h1 h2)).mono (by decide)
theorem restN_ok {s : Str} (h : nameS s = true) : sOk 80 (restN s) := by
  have a : sOk 8 s := ⟨nameC_len h, nameC_ok h⟩
  have b : sOk 1 (" " : Str) := ⟨by decide +kernel, by decide +kernel⟩
  have c : sOk 4 ("rest" : Str) := ⟨by decide +kernel, by decide +kernel⟩
  exact ((c.app b).app a).mono (by decide)
theorem items_ok {L : List (Str × Span)} {r : Option Str} (h : ∀ e ∈ L, nameS e.1 = true ∧ smO e.2.1 ∧ smO e.2.2) (hr : ∀ s, r = some s → nameS s = true) : ∀ w ∈ itemsN L r, sOk 80 w := fun w hw => by
  rcases List.mem_append.mp hw with hw | hw
  · obtain ⟨e, he, rfl⟩ := List.mem_map.mp hw
    exact rowN_ok (h e he).1 (h e he).2.1 (h e he).2.2
  · obtain ⟨s, hs, rfl⟩ := List.mem_map.mp hw
    exact restN_ok (hr s (Option.mem_toList.mp hs))
theorem strs_sh {ws : List Str} (h : ∀ w ∈ ws, sOk 80 w) : SeqAt.shaped (.list (ws.map PyData.str)) = true := shaped_list (n := 0) (by decide) fun d hd => by
  obtain ⟨w, hw, rfl⟩ := List.mem_map.mp hd
  exact ⟨by simp only [PyData.canLay0]; exact (h w hw).2, by simp [PyData.depth]⟩
theorem items_nil {L : List (Str × Span)} {r : Option Str} : (itemsN L r).isEmpty = (L.isEmpty && r.isNone) := by
  cases L <;> cases r <;> rfl
theorem restN_eq (s : Str) : ("rest " : Str) ++ s = restN s := congrArg (· ++ s) (by decide +kernel)
theorem leS_dec (a b : Str) : leS b a = !decide (a.cps.toList < b.cps.toList) := by
  unfold leS
  rw [PyProof.Rows.ltCps_eq]
theorem find_occ (x y : Str) : (!(PySem.Builtin.Str.occurrences x y 0 x.length 1).isEmpty) = false → Txt.find x y = -1 := fun h => by
  unfold Txt.find
  cases e : PySem.Builtin.Str.occurrences x y 0 x.length 1 with
  | nil => rfl
  | cons a b => rw [e] at h; cases h
theorem occ_find (x y : Str) : (!(PySem.Builtin.Str.occurrences x y 0 x.length 1).isEmpty) = true → Txt.find x y ≠ -1 := fun h => by
  unfold Txt.find
  cases e : PySem.Builtin.Str.occurrences x y 0 x.length 1 with
  | nil => rw [e] at h; cases h
  | cons a b =>
    show ((a : Nat) : Int) ≠ -1
    omega
theorem lawC_of {t : Str} (h : (t == ("empty" : Str)) = false) : lawC t = (foldI itemL (Txt.split t "; ") ([], none)).bind fun q => if 8 < q.1.length + q.2.toList.length then none else some q := by
  unfold lawC
  rw [h, if_neg Bool.false_ne_true]
theorem itemL_two {q : RdQ} {x w0 w1 : Str} (h : Txt.split x " " = [w0, w1]) : itemL q x = if (q.2.isSome || !nameS w0) = true then none else match rdO w1 with
    | some s => if badE q.1 w0 s = true then none else some (q.1 ++ [(w0, s)], q.2)
    | none => if (!decide (w0 = "rest") || (!nameS w1 || decide (w1 ∈ q.1.map (·.1)))) = true then none else some (q.1, some w1) := by
  unfold itemL
  rw [h]
theorem itemL_not {q : RdQ} {x : Str} (h : (Txt.split x " ").length ≠ 2) : itemL q x = none := by
  unfold itemL
  split
  · rename_i e
    rw [e] at h
    exact absurd rfl h
  · rfl
theorem split_okS {t w : Str} (ht : tOkC t) (h : w ∈ Txt.split t " ") : tOkC w := by
  have e : TL.tl t = TL.joinL (TL.tl (" " : Str)) ((Txt.split t " ").map TL.tl) := by
    rw [← TL.tl_join, ← TL.join_eq, join_spC]
  obtain ⟨h1, h2⟩ := joinL_mem (TL.tl (" " : Str)) (List.mem_map.mpr ⟨w, h, rfl⟩)
  rw [← e] at h1 h2
  exact tOkC_sub ht h1 h2
theorem rdO_find {x : Str} {s : Span} (h : rdO x = some s) : Txt.find x ".." ≠ -1 := fun z => by
  unfold rdO at h
  rw [if_pos z] at h
  cases h
theorem if_span {K : PySem.W.Frag} {σ : L2.St} {H : Hp} {Q : VK} {ww : Addr} {a0 a1 : Str} (hv : σ[4]? = some (some (.ref ww))) (hw : H ww = some (.lst [.str a0, .str a1])) (hk : tOkC a1) (h1 : rdO a1 = none → ∀ H', Same H H' → Q .non H') (h2 : ∀ s : Span, rdO a1 = some s → ∀ p H', Same H H' → H p = none → H' p = some (.tup (spV s)) → Q (.ref p) H') :
    tIf (tTest (tOp (fun x y H Q => ∃ i j, x = V.str i ∧ y = V.str j ∧ Q (V.bl (!(PySem.Builtin.Str.occurrences j i 0 j.length 1).isEmpty)) H) (tC (.str "..")) (tOp (rIxL K) (tVar 4) (tC (.int 1))))) (tCall (sp_lspan9 K) [] E0 (tCons (tOp (rIxL K) (tVar 4) (tC (.int 1))) tNil)) (tC .non) σ H Q := by
  refine ⟨_, hv, ww, _, 1, .str a1, rfl, rfl, SqL.of hw, atI_nat (j := 1) rfl, _, _, rfl, rfl, _, rfl, ?_⟩
  cases e : (!(PySem.Builtin.Str.occurrences a1 ".." 0 a1.length 1).isEmpty) with
  | true => exact iteT ⟨_, hv, ww, _, 1, .str a1, rfl, rfl, SqL.of hw, atI_nat (j := 1) rfl, a1, rfl, hk.1, hk.2, occ_find _ _ e, h1, h2⟩
  | false =>
    have hf := find_occ _ _ e
    refine iteF (h1 ?_ H (Same.refl H))
    unfold rdO
    rw [if_pos hf]
theorem bad_filter (w : Str) (s : Span) : ∀ rr : List MRow, ((rr.filter fun x => leS w x.2.1 || meetL x.2.2.2 s).isEmpty) = !badE (rr.map nsp) w s
  | [] => rfl
  | r :: t => by
    have ih := bad_filter w s t
    unfold badE at ih ⊢
    rw [List.map_cons, List.any_cons, List.filter_cons]
    show _ = !((leS w r.2.1 || meetL r.2.2.2 s) || _)
    cases e : (leS w r.2.1 || meetL r.2.2.2 s) with
    | true => rw [if_pos rfl]; rfl
    | false => rw [if_neg Bool.false_ne_true, Bool.false_or]; exact ih
theorem row_ne_list {H : Hp} {r : MRow} {lr : Addr} {rr : List MRow} (h : H r.1 = some (.lst [.str r.2.1, .ref r.2.2.1])) (hl : H lr = some (.lst (rr.map fun r => V.ref r.1))) : r.1 ≠ lr := fun z => by
  rw [z, hl] at h
  cases rr with
  | nil => cases h
  | cons a b => cases h
theorem and_words {K : PySem.W.Frag} {σ : L2.St} {H : Hp} {Q : VK} {wl : Addr} {wv : List V} (hv : σ[4]? = some (some (.ref wl))) (hw : H wl = some (.lst wv)) (hf : wv.all flatV = true) (k : ∀ c, (c = true → inV (.str "rest") wv = false ∧ inV (.str "empty") wv = false) → Q (.bl c) H) :
    tAndV (tOp (rIn K true) (tC (.str "rest")) (tVar 4)) (tOp (rIn K true) (tC (.str "empty")) (tVar 4)) σ H Q := by
  refine ⟨_, hv, wl, _, rfl, .inl (SqL.of hw), rfl, hf, _, rfl, ?_⟩
  show if (!inV (.str "rest") wv) = true then _ else _
  cases e1 : inV (.str "rest") wv with
  | true => exact iteF (k false fun h => by cases h)
  | false => exact iteT ⟨_, hv, wl, _, rfl, .inl (SqL.of hw), rfl, hf, k _ fun h => ⟨e1, by simpa using h⟩⟩
theorem inV_words {s : Str} {rr : List MRow} {rt : Option Str} (h : inV (.str s) ((rr.map fun r => V.str r.2.1) ++ [rvO rt]) = false) : s ∉ namesM rr rt := fun hm => by
  have : ∃ w, w ∈ ((rr.map fun r => V.str r.2.1) ++ [rvO rt]) ∧ w = V.str s := by
    unfold namesM at hm
    rcases List.mem_append.mp hm with hm | hm
    · obtain ⟨r, hr, e⟩ := List.mem_map.mp hm
      exact ⟨.str r.2.1, List.mem_append_left _ (List.mem_map.mpr ⟨r, hr, rfl⟩), by rw [e]⟩
    · rw [Option.mem_toList] at hm
      exact ⟨_, List.mem_append_right _ List.mem_cons_self, by rw [hm]; rfl⟩
  obtain ⟨w, hw, rfl⟩ := this
  unfold inV at h
  have := List.any_eq_false.mp h _ hw
  exact this (show (s == s) = true from beq_self_eq_true s)
theorem joinL_in (S : List Nat) : ∀ {parts : List (List Nat)} {c : Nat}, c ∈ TL.joinL S parts → c ∈ S ∨ ∃ p ∈ parts, c ∈ p
  | [], c, h => by cases h
  | [q], c, h => .inr ⟨q, List.mem_cons_self, h⟩
  | q :: q2 :: r, c, h => by
    have h : c ∈ q ++ (S ++ TL.joinL S (q2 :: r)) := h
    rcases List.mem_append.mp h with h | h
    · exact .inr ⟨q, List.mem_cons_self, h⟩
    · rcases List.mem_append.mp h with h | h
      · exact .inl h
      · rcases joinL_in S h with h | ⟨p, hp, h⟩
        · exact .inl h
        · exact .inr ⟨p, List.mem_cons_of_mem _ hp, h⟩
theorem joinL_count {S : List Nat} {x n m : Nat} (hS : S.count x ≤ 1) (hl : S.length ≤ 2) : ∀ {parts : List (List Nat)}, (∀ p ∈ parts, x ∉ p ∧ p.length ≤ m) → parts.length ≤ n → (TL.joinL S parts).count x ≤ parts.length ∧ (TL.joinL S parts).length ≤ parts.length * (m + 2)
  | [], _, _ => ⟨Nat.zero_le _, Nat.zero_le _⟩
  | [q], h, _ => by
    obtain ⟨h1, h2⟩ := h q List.mem_cons_self
    refine ⟨?_, by show q.length ≤ 1 * (m + 2); omega⟩
    show q.count x ≤ 1
    rw [List.count_eq_zero_of_not_mem h1]
    exact Nat.zero_le _
  | q :: q2 :: r, h, hn => by
    obtain ⟨h1, h2⟩ := h q List.mem_cons_self
    obtain ⟨i1, i2⟩ := joinL_count (n := n) hS hl (parts := q2 :: r) (fun p hp => h p (List.mem_cons_of_mem _ hp)) (by rw [List.length_cons] at hn; omega)
    constructor
    · show (q ++ (S ++ TL.joinL S (q2 :: r))).count x ≤ (q2 :: r).length + 1
      rw [List.count_append, List.count_append, List.count_eq_zero_of_not_mem h1]
      omega
    · show (q ++ (S ++ TL.joinL S (q2 :: r))).length ≤ ((q2 :: r).length + 1) * (m + 2)
      rw [List.length_append, List.length_append, Nat.add_mul]
      omega
/-- the text of a catalog is short -/
theorem catN_ok {L : List (Str × Span)} {r : Option Str} (v : VN L r) (h8 : L.length + r.toList.length ≤ 8) : tOkC (catN L r) ∧ (catN L r).length ≤ 800 ∧ semi (catN L r) ≤ 8 := by
  have hio := items_ok (L := L) (r := r) (fun e he => ⟨v.nm e he, (v.sp e he).2⟩) fun s e => (v.rt s e).1
  unfold catN
  split
  · exact ⟨⟨by decide +kernel, by decide +kernel⟩, by decide +kernel, by decide +kernel⟩
  · have hil : (itemsN L r).length ≤ 8 := by
      unfold itemsN
      rw [List.length_append, List.length_map, List.length_map]
      exact h8
    have hfr : ∀ p ∈ (itemsN L r).map TL.tl, 59 ∉ p ∧ p.length ≤ 80 := fun p hp => by
      obtain ⟨w, hw, rfl⟩ := List.mem_map.mp hp
      refine ⟨?_, by rw [← TL.len_tl]; exact (hio w hw).1⟩
      rcases List.mem_append.mp hw with hw | hw
      · obtain ⟨e, he, rfl⟩ := List.mem_map.mp hw
        exact row_free (v.nm e he)
      · obtain ⟨s, hs, rfl⟩ := List.mem_map.mp hw
        exact rest_free (v.rt s (Option.mem_toList.mp hs)).1
    have et : TL.tl (Txt.join "; " (itemsN L r)) = TL.joinL [59, 32] ((itemsN L r).map TL.tl) := by
      rw [TL.join_eq, TL.tl_join, semi_tl]
    obtain ⟨c1, c2⟩ := joinL_count (S := [59, 32]) (x := 59) (n := 8) (m := 80) (by decide) (by decide) hfr (by rw [List.length_map]; exact hil)
    rw [← et, List.length_map] at c1 c2
    have hln : (Txt.join "; " (itemsN L r)).length ≤ 800 := by
      rw [TL.len_tl]
      have : (itemsN L r).length * (80 + 2) ≤ 8 * 82 := Nat.mul_le_mul hil (by decide)
      omega
    refine ⟨⟨by omega, strOk_iff.mpr fun c hc => ?_⟩, hln, by unfold semi; omega⟩
    have hc : c ∈ TL.tl (Txt.join "; " (itemsN L r)) := hc
    rw [et] at hc
    rcases joinL_in _ hc with hc | ⟨p, hp, hc⟩
    · simp only [List.mem_cons, List.not_mem_nil, or_false] at hc
      rcases hc with rfl | rfl <;> decide
    · obtain ⟨w, hw, rfl⟩ := List.mem_map.mp hp
      exact strOk_iff.mp (hio w hw).2 c hc
theorem ceq_sorted {rs rs' : List Row} {rt : Option Str} (h1 : (rs.map (·.1)).Nodup) (h2 : (rs'.map (·.1)).Nodup) (e : (sortR rs).map nsr = (sortR rs').map nsr) : ceqB rs rs' rt rt = true := by
  have hl := congrArg List.length e
  rw [List.length_map, List.length_map, sortR_len, sortR_len] at hl
  rw [ceq_same h1 h2 hl fun r hr => ?_, decide_eq_true rfl]
  have : nsr r ∈ (sortR rs').map nsr := by
    rw [← e]
    exact List.mem_map.mpr ⟨r, (sortR_perm h1).mem_iff.mpr hr, rfl⟩
  obtain ⟨r', hr', e2⟩ := List.mem_map.mp this
  exact ⟨r', sortR_mem hr', e2⟩
section
variable {P : Program} {w : World} {K : PySem.W.Frag} {mg : Str → Option Value} {base : Heap}
theorem ok_law_cell (T : Txt K mg base) : FnOk P w K mg base CX0 1 T.f_law_cell T.fd_law_cell ["_law_script", "_law_k"] (sp_law_cell K) := by
  refine T.F_law_cell.ok sc_law_cell (fun vs H Q E h => ?_) (fun cdv A outer s H vs Q E hr h => ?_)
  · obtain ⟨a, ns, k, rfl, _⟩ := h
    rfl
  · obtain ⟨a, ns, k, rfl, hS, hk, kq⟩ := h
    refine ⟨_, (pss_cons (ps_if (pt_cmpR op_lt (pv 1) (pe_callB (id := "len") call_len_seq (by rfl) T.z_len (by decide +kernel) (pa_cons (pv 0) pa_nil)) (nomark _)) (pss_one (ps_ret (pe_ix ix_list (pv 0) (pv 1) (fun _ _ => rfl)))) pss_nil)
        (pss_one (ps_ret (pe_op op_add (pe_op op_mul pe_int (pv 1)) pe_int)))), ?_⟩
    refine ⟨_, rfl, _, rfl, a, _, rfl, .inl hS, _, _, rfl, rfl, _, rfl, ?_⟩
    refine ite2 (fun c => ?_) (fun c => ?_)
    · have c' := of_decide_eq_true c
      rw [List.length_map] at c'
      obtain ⟨j, rfl⟩ := Int.eq_ofNat_of_zero_le hk
      have hj : j < ns.length := by omega
      refine ⟨_, rfl, _, rfl, a, _, _, .int ns[j], rfl, rfl, hS, atI_nat (by rw [List.getElem?_map, List.getElem?_eq_getElem hj]; rfl), kq _⟩
    · refine ⟨_, rfl, _, _, rfl, rfl, .inl ⟨by decide, by decide⟩, _, _, rfl, rfl, kq _⟩
theorem ok_law_box (T : Txt K mg base) : FnOk P w K mg base CX0 1 T.f_law_box T.fd_law_box ["_law_cell_here"] sp_law_box := by
  refine T.F_law_box.ok sc_law_box (fun vs H Q E h => ?_) (fun cdv A outer s H vs Q E hr h => ?_)
  · obtain ⟨z, rfl, _⟩ := h
    rfl
  · obtain ⟨z, rfl, k⟩ := h
    refine ⟨_, (pss_one (ps_ret (pe_lst (pa_cons (pe_callB (id := "max") (call_max2 rfl) (by rfl) T.z_max (by decide +kernel) (pa_cons pe_int (pa_cons (pe_op op_sub (pv 0) (pe_op op_pow pe_int pe_int)) pa_nil))) (pa_cons (pe_op op_mod (pv 0) pe_int) (pa_cons pe_int pa_nil)))))), ?_⟩
    refine ⟨_, rfl, _, _, rfl, rfl, ⟨by decide, by decide, by decide⟩, _, _, rfl, rfl, _, _, rfl, ?_⟩
    refine ⟨_, rfl, _, _, rfl, rfl, (by show (0 : Int) < 2147483629; decide), (by show 3 ≤ sizeLine; decide), fun p hp => ?_⟩
    refine k p _ hp ⟨_, _, _, upd_same, ?_, Int.emod_nonneg _ (by decide), Int.emod_lt_of_pos _ (by decide), by decide, by decide⟩
    by_cases c : z - 10 ^ (18 : Int).toNat > 0
    · rw [if_pos c]
      omega
    · rw [if_neg c]
      exact Int.le_refl _
theorem ok_law_take (T : Txt K mg base) : FnOk P w K mg base CX0 1 T.f_law_take T.fd_law_take ["_law_box_here", "_law_many"] sp_law_take := by
  refine T.F_law_take.ok sc_law_take (fun vs H Q E h => ?_) (fun cdv A outer s H vs Q E hr h => ?_)
  · obtain ⟨H0, p, n, m, rfl, _⟩ := h
    rfl
  · obtain ⟨H0, p, n, m, rfl, B, hn, hm, hm2, k⟩ := h
    obtain ⟨d, s, c, hp, hd, hs, hs2, hc, hc2⟩ := B.box
    have hL : SqL K H p [.int d, .int s, .int c] := SqL.of hp
    have nx : ∀ (d' c' : Int), 0 ≤ d' → 0 ≤ c' → c' ≤ c + 1 → BoxIn H0 (upd H p (.lst [.int d', .int s, .int c'])) p (n + 1) := fun d' c' h1 h2 h3 =>
      ⟨fun x u e => by rw [upd_ne (ne_of_none e B.free)]; exact B.same _ _ e, B.free, d', s, c', upd_same, h1, hs, hs2, h2, by omega⟩
    refine ⟨_, (pss_cons (ps_if (pt_cmpR op_gt (pe_ix ix_list (pv 0) pe_int (fun _ _ => rfl)) pe_int (nomark _)) (pss_cons (ps_set (i := 2) sc_law_take.nd rfl (Or.inl rfl) (pe_op op_mod (pe_ix ix_list (pv 0) pe_int (fun _ _ => rfl)) (pv 1)))
        (pss_cons (ps_asg (pe_op op_fdiv (pe_ix ix_list (pv 0) pe_int (fun _ _ => rfl)) (pv 1)) (pg_sub (pv 0) pe_int set_list))
        (pss_one (ps_ret (pv 2))))) pss_nil)
        (pss_cons (ps_asg (pe_op op_add (pe_ix ix_list (pv 0) pe_int (fun _ _ => rfl)) pe_int) (pg_sub (pv 0) pe_int set_list))
        (pss_cons (ps_set (i := 3) sc_law_take.nd rfl (Or.inl rfl) (pe_op op_mod (pe_op op_pow (pe_op op_add (pe_op op_add (pe_ix ix_list (pv 0) pe_int (fun _ _ => rfl)) (pe_op op_mul pe_int (pe_ix ix_list (pv 0) pe_int (fun _ _ => rfl)))) pe_int) pe_int) pe_int))
        (pss_cons (ps_set (i := 3) sc_law_take.nd rfl (Or.inl rfl) (pe_op op_mod (pe_op op_pow (pe_op op_add (pv 3) (pe_op op_mul pe_int (pe_ix ix_list (pv 0) pe_int (fun _ _ => rfl)))) pe_int) pe_int))
        (pss_one (ps_ret (pe_op op_mod (pe_op op_fdiv (pv 3) pe_int) (pv 1)))))))), ?_⟩
    refine ⟨_, rfl, p, _, _, _, rfl, rfl, hL, atI_nat (j := 0) rfl, _, _, rfl, rfl, _, rfl, ?_⟩
    refine ite2 (fun c0 => ?_) (fun c0 => ?_)
    · have c0' := of_decide_eq_true c0
      refine ⟨_, rfl, p, _, _, _, rfl, rfl, hL, atI_nat (j := 0) rfl, _, rfl, _, _, rfl, rfl, hm, ?_⟩
      refine ⟨_, rfl, p, _, _, _, rfl, rfl, hL, atI_nat (j := 0) rfl, _, rfl, _, _, rfl, rfl, ⟨hm, by omega⟩, ?_⟩
      refine ⟨_, rfl, p, _, _, 0, rfl, rfl, hp, rfl, ?_⟩
      refine ⟨_, rfl, k _ _ (Int.emod_nonneg _ (by omega)) (Int.emod_lt_of_pos _ hm) (nx _ _ (Int.ediv_nonneg hd (by omega)) hc (by omega))⟩
    · refine ⟨_, rfl, p, _, _, _, rfl, rfl, hL, atI_nat (j := 2) rfl, _, _, rfl, rfl, ?_⟩
      refine ⟨_, rfl, p, _, _, 2, rfl, rfl, hp, rfl, ?_⟩
      have hL' : SqL K (upd H p (.lst [.int d, .int s, .int (c + 1)])) p [.int d, .int s, .int (c + 1)] := SqL.of upd_same
      refine ⟨_, rfl, p, _, _, _, rfl, rfl, hL', atI_nat (j := 1) rfl, _, rfl, p, _, _, _, rfl, rfl, hL', atI_nat (j := 2) rfl, _, _, rfl, rfl, .inl ⟨by decide, by decide⟩, _, _, rfl, rfl, _, _, rfl, rfl, _, _, rfl, rfl, ⟨by decide, by decide, by omega⟩, _, _, rfl, rfl, (by show (0 : Int) < 2147483647; decide), ?_⟩
      have h1 := Int.emod_nonneg ((s + 7919 * (c + 1) + 43) ^ (5 : Int).toNat) (show (2147483647 : Int) ≠ 0 by decide)
      have h2 := Int.emod_lt_of_pos ((s + 7919 * (c + 1) + 43) ^ (5 : Int).toNat) (show (0 : Int) < 2147483647 by decide)
      refine ⟨_, rfl, _, rfl, p, _, _, _, rfl, rfl, hL', atI_nat (j := 2) rfl, _, _, rfl, rfl, .inl ⟨by decide, by decide⟩, _, _, rfl, rfl, _, _, rfl, rfl, ⟨by decide, by decide, by omega⟩, _, _, rfl, rfl, (by show (0 : Int) < 2147483587; decide), ?_⟩
      refine ⟨_, rfl, _, _, rfl, rfl, ⟨by decide, by decide⟩, _, rfl, _, _, rfl, rfl, hm, ?_⟩
      exact k _ _ (Int.emod_nonneg _ (by omega)) (Int.emod_lt_of_pos _ hm) (nx _ _ hd (by omega) (by omega))
theorem ok_law_mixed (T : Txt K mg base) : FnOk P w K mg base CX0 2 T.f_law_mixed T.fd_law_mixed ["_law_box_here", "_law_some"] sp_mixed := by
  refine T.F_law_mixed.ok sc_law_mixed (fun vs H Q E h => ?_) (fun cdv A outer s H vs Q E hr h => ?_)
  · obtain ⟨H0, p, l, n, xs, rfl, _⟩ := h
    rfl
  · obtain ⟨H0, p, l, n, xs, rfl, B, hl, hz, hn, k⟩ := h
    refine ⟨_, (pss_cons (ps_set (i := 2) sc_law_mixed.nd rfl (Or.inr rfl) (pe_callTy (T := "list") call_list_of (by rfl) T.z_list (by decide +kernel) (pa_cons (pv 1) pa_nil)))
        (pss_one (ps_ret (pe_lc (own := [("_law_k", 3)]) (g := gName 3) (tt := tYes) rfl sc_law_mixed.nd (pi_range1 rfl T.z_range (pa_cons (pe_callB (id := "len") call_len_seq (by rfl) T.z_len (by decide +kernel) (pa_cons (pv 1) pa_nil)) pa_nil)) (blkOk_by (own := [("_law_k", 3)]) (N := ["_law_box_here", "_law_some", "_law_left", "_law_k"]) (sc := defScope s_law_mixed) (by decide +kernel)) (fun _ _ _ _ _ => (pg_name (i := 3) sc_law_mixed.nd rfl (Or.inl rfl))) (fun _ _ _ _ _ => pts_nil) (fun _ _ _ _ _ => (show PE _ _ (tBM K "list" rPopAt _ _) from (pe_bm PySem.F.plainAttrs_list PySem.F.slot_list_pop PySem.F.type_list_pop (r := rPopAt) mt_popAt (pv 2) (pa_cons (pe_call (ok_law_take T) hr rfl T.m_law_take T.F_law_take.kp T.b_law_take .nil pass0 (pa_cons (pv 0) (pa_cons (pe_callB (id := "len") (r := fun xs H Q => ∃ p ys, xs = [.ref p] ∧ (SqL K H p ys ∨ SqT K H p ys) ∧ Q (.int ys.length) H) call_len_seq (by rfl) T.z_len (by decide +kernel) (pa_cons (pv 2) pa_nil)) pa_nil))) pa_nil)))))))), ?_⟩
    have hS : SqL K H l xs := SqL.of hl
    have pn : ∀ {H' : Hp} {m : Nat}, BoxIn H0 H' p m → ∀ {t : Addr}, H' t = none → t ≠ p := fun {H' m} b {t} h => by
      obtain ⟨_, _, _, hp, _⟩ := b.box
      exact (ne_of_none hp h).symm
    refine ⟨_, rfl, l, xs, rfl, .inl hS, fun t ht => ?_⟩
    have htp := pn B ht
    have nlt : l ≠ t := ne_of_none hl ht
    have B1 : BoxIn H0 (upd H t (.lst xs)) p n := B.keep (same_new ht)
    refine ⟨_, rfl, l, xs, rfl, .inl (SqL.of (by rw [upd_ne nlt]; exact hl)), xs.length, rfl, by omega, by omega, fun D hD => ?_⟩
    have hDp := pn B1 hD
    have hDt : D ≠ t := fun e => by
      rw [e, upd_same] at hD
      cases hD
    have hD0 : H0 D = none := B1.same.free hD
    have ht0 : H0 t = none := B.same.free ht
    refine lc_range (fun i H2 => ∃ acc left : List V, H2 D = some (.lst acc) ∧ acc.length = i ∧ H2 t = some (.lst left) ∧ (acc ++ left).Perm xs ∧ BoxIn H0 H2 p (n + i)) ⟨[], xs, upd_same, rfl, by rw [upd_ne hDt.symm, upd_same], List.Perm.refl _, B1.mut hDp hD0⟩ ?_ ?_
    · rintro i H2 hi ⟨acc, left, hl2, hy, ht2, hpm, B2⟩
      have hll : left.length = xs.length - i := by
        have := hpm.length_eq
        rw [List.length_append] at this
        omega
      have B2' := B2.all
      refine ⟨rfl, tyes ⟨_, rfl, .inl ⟨rfl, _, .inl (.inl ht2)⟩, _, rfl, _, rfl, t, left, rfl, .inl (SqL.of ht2), but H2 p, p, _, _, rfl, B2'.1, by omega, by omega, by omega, fun z H3 z0 z1 B3 => ?_⟩⟩
      obtain ⟨j, rfl⟩ := Int.eq_ofNat_of_zero_le z0
      have hj : j < left.length := by omega
      have ht3 : H3 t = some (.lst left) := B3.same _ _ (by rw [but_ne htp]; exact ht2)
      have hl3 : H3 D = some (.lst acc) := B3.same _ _ (by rw [but_ne hDp]; exact hl2)
      have hsi : seqIndex? (j : Int) left.length = some j := by
        unfold seqIndex?
        have e1 : ¬ ((j : Int) < 0) := by omega
        simp only [e1, if_false]
        rw [if_pos (by simp; omega)]
        simp
      refine ⟨t, left, (j : Int), j, left[j], rfl, rfl, ht3, by omega, by omega, hsi, List.getElem?_eq_getElem hj, acc, by rw [upd_ne hDt]; exact hl3, Nat.lt_of_lt_of_le (show acc.length < 200 by omega) (by decide), acc ++ [left[j]], left.eraseIdx j, upd_same, by simp [hy], by rw [upd_ne hDt.symm, upd_same], ?_, ?_⟩
      · refine List.Perm.trans ?_ hpm
        rw [List.append_assoc]
        refine List.Perm.append_left _ ?_
        rw [List.eraseIdx_eq_take_drop_succ]
        have e : left = left.take j ++ left[j] :: left.drop (j + 1) := by
          rw [List.getElem_cons_drop, List.take_append_drop]
        have q : (left.take j ++ left[j] :: left.drop (j + 1)).Perm (left[j] :: (left.take j ++ left.drop (j + 1))) := List.perm_middle
        exact q.symm.trans (List.Perm.of_eq e.symm)
      · exact ((B3.low B2'.2).mut htp ht0).mut hDp hD0
    · rintro H2 ⟨acc, left, hl2, hy, ht2, hpm, B2⟩
      have e : left = [] := by
        have := hpm.length_eq
        rw [List.length_append] at this
        exact List.length_eq_zero_iff.mp (by omega)
      rw [e, List.append_nil] at hpm
      exact k D H2 acc B2.same hD0 hDp hl2 hpm B2
theorem ok_law_names (T : Txt K mg base) : FnOk P w K mg base CX0 3 T.f_law_names T.fd_law_names ["_law_box_here", "_law_many"] sp_names := by
  refine T.F_law_names.ok sc_law_names (fun vs H Q E h => ?_) (fun cdv A outer s H vs Q E hr h => ?_)
  · obtain ⟨H0, p, n, m, rfl, _⟩ := h
    rfl
  · obtain ⟨H0, p, n, m, rfl, B, hm, hn, k⟩ := h
    refine ⟨_, (pss_cons (ps_set (i := 2) sc_law_names.nd rfl (Or.inl rfl) pe_str)
        (pss_cons (ps_if (pt_cmpR op_eq (pe_call (ok_law_take T) (hr.mono (by decide)) rfl T.m_law_take T.F_law_take.kp T.b_law_take .nil pass0 (pa_cons (pv 0) (pa_cons pe_int pa_nil))) pe_int (nomark _)) (pss_cons (ps_set (i := 3) sc_law_names.nd rfl (Or.inl rfl) (pe_lst (pa_cons pe_str (pa_cons pe_str (pa_cons pe_str (pa_cons pe_str (pa_cons pe_str (pa_cons pe_str (pa_cons pe_str (pa_cons pe_str (pa_cons pe_str (pa_cons pe_str (pa_cons pe_str (pa_cons pe_str (pa_cons pe_str pa_nil)))))))))))))))
        (pss_one (ps_ret (pe_slice sl_list (pe_call (ok_law_mixed T) hr rfl T.m_law_mixed T.F_law_mixed.kp T.b_law_mixed .nil pass0 (pa_cons (pv 0) (pa_cons (pv 3) pa_nil))) po_none (po_some (pv 1)))))) pss_nil)
        (pss_cons (ps_set (i := 4) sc_law_names.nd rfl (Or.inl rfl) (pe_ix ix_list (pe_lst (pa_cons pe_str (pa_cons pe_str (pa_cons pe_str (pa_cons pe_str (pa_cons pe_str (pa_cons pe_str pa_nil))))))) (pe_call (ok_law_take T) (hr.mono (by decide)) rfl T.m_law_take T.F_law_take.kp T.b_law_take .nil pass0 (pa_cons (pv 0) (pa_cons pe_int pa_nil))) (fun _ _ => rfl)))
        (pss_cons (ps_par3 (i := 5) (j := 6) (l := 7) (by rfl) sc_law_names.nd rfl rfl rfl (by decide) (by decide) (by decide) rfl rfl rfl (pa_cons (pe_call (ok_law_take T) (hr.mono (by decide)) rfl T.m_law_take T.F_law_take.kp T.b_law_take .nil pass0 (pa_cons (pv 0) (pa_cons pe_int pa_nil))) (pa_cons (pe_ix ix_list (pe_lst (pa_cons pe_int (pa_cons pe_int (pa_cons pe_int (pa_cons pe_int (pa_cons pe_int (pa_cons pe_int pa_nil))))))) (pe_call (ok_law_take T) (hr.mono (by decide)) rfl T.m_law_take T.F_law_take.kp T.b_law_take .nil pass0 (pa_cons (pv 0) (pa_cons pe_int pa_nil))) (fun _ _ => rfl)) (pa_cons (pe_call (ok_law_take T) (hr.mono (by decide)) rfl T.m_law_take T.F_law_take.kp T.b_law_take .nil pass0 (pa_cons (pv 0) (pa_cons pe_int pa_nil))) pa_nil))) (by rfl))
        (pss_cons (ps_set (i := 8) sc_law_names.nd rfl (Or.inl rfl) (pe_lst pa_nil))
        (pss_cons (ps_for PassesOwn.never rfl (pi_range1 rfl T.z_range (pa_cons (pv 1) pa_nil)) (pg_name (i := 9) sc_law_names.nd rfl (Or.inl rfl))
          (pss_cons (ps_set (i := 10) sc_law_names.nd rfl (Or.inl rfl) (pe_ix ix_str (pv 2) (pe_op op_mod (pe_op op_add (pv 5) (pe_op op_mul (pv 6) (pv 9))) pe_int) (fun _ _ => rfl)))
        (pss_cons (ps_set (i := 11) sc_law_names.nd rfl (Or.inl rfl) (pe_ix ix_list (pe_lst (pa_cons (pe_op op_add_str (pv 4) (pv 10)) (pa_cons (pe_op op_add_str (pv 10) (pv 4)) (pa_cons (pv 10) pa_nil)))) (pe_ifExp (pt_cmpR op_gt (pv 9) pe_int (nomark _)) (pv 7) pe_int) (fun _ _ => rfl)))
        (pss_one (ps_expr (pe_bm PySem.F.plainAttrs_list PySem.F.slot_list_append PySem.F.type_list_append mt_append (pv 8) (pa_cons (pe_ifExp (pt_cmpR op_eq (pv 11) pe_str (nomark _)) pe_str (pv 11)) pa_nil)))))))
        (pss_one (ps_ret (pv 8))))))))), ?_⟩
    have pn : ∀ {H0 H' : Hp} {m : Nat}, BoxIn H0 H' p m → ∀ {t : Addr}, H' t = none → t ≠ p := fun {H0 H' m} b {t} h => by
      obtain ⟨_, _, _, hp, _⟩ := b.box
      exact (ne_of_none hp h).symm
    refine ⟨_, rfl, H0, p, n, 7, rfl, B, by omega, by decide, by decide, fun z1 H1 z10 z11 B1 => ⟨rfl, _, rfl, ?_⟩⟩
    refine ite2 (fun c => ?_) (fun c => ?_)
    · refine ⟨(by show 13 ≤ sizeLine; decide), fun l hl => ?_⟩
      have B2 := B1.keep (same_new (o := .lst ((["begin", "empty", "rest", "step", "end", "look", "old", "new", "put", "part", "move", "split", "lock"] : List Str).map V.str)) hl)
      have hlp := pn B1 hl
      refine ⟨_, rfl, _, rfl, H0, p, l, _, (["begin", "empty", "rest", "step", "end", "look", "old", "new", "put", "part", "move", "split", "lock"] : List Str).map V.str, rfl, B2, upd_same, by decide, by show n + 1 + 13 < 1000000; omega, fun q H3 ys s3 hq0 hqp hq3 hpm B3 => ?_⟩
      obtain ⟨ss, rfl, hss⟩ := strs_of (xs := ys) (W := ["begin", "empty", "rest", "step", "end", "look", "old", "new", "put", "part", "move", "split", "lock"]) fun y hy => by
        obtain ⟨s, hs, e⟩ := List.mem_map.mp (hpm.mem_iff.mp hy)
        exact ⟨s, hs, e.symm⟩
      have hlen : ss.length = 13 := by
        have := hpm.length_eq
        rw [List.length_map, List.length_map] at this
        exact this
      refine ⟨_, rfl, m, rfl, q, _, rfl, SqL.of hq3, fun r hr => ?_⟩
      have e : cutV (ss.map V.str) none (some (m : Int)) = (ss.take m).map V.str := by
        unfold cutV
        rw [HT.sIx_none, HT.sIx_nat, List.length_map, hlen, List.drop_zero, Nat.sub_zero, List.map_take, Nat.min_eq_left hm]
      rw [e]
      have all : ∀ s ∈ (["begin", "empty", "rest", "step", "end", "look", "old", "new", "put", "part", "move", "split", "lock"] : List Str), sOk 16 s := by
        unfold sOk
        decide +kernel
      have nd : ss.Nodup := nodup_of_map (hpm.nodup_iff.mpr (nodup_map wordsL_ok.2))
      refine k r _ (ss.take m) (s3.trans (same_new hr)) (s3.free hr) (pn B3 hr) upd_same ?_ (fun s hs => all s (hss s (List.mem_of_mem_take hs))) (fun s hs => wordsL_ok.1 s (hss s (List.mem_of_mem_take hs))) (List.Pairwise.sublist (List.take_sublist _ _) nd) ((B3.keep (same_new hr)).mono (by show n + 1 + 13 ≤ n + 40; omega))
      rw [List.length_take, hlen]
      omega
    · refine ⟨(by show 6 ≤ sizeLine; decide), fun l hl => ?_⟩
      have B2 := B1.new (o := .lst ((["", "a", "tabl", "rest", "part", "zzzzzzz"] : List Str).map V.str)) hl
      refine ⟨_, rfl, _, p, _, 6, rfl, B2.1, by omega, by decide, by decide, fun z2 H2 z20 z21 B3 => ?_⟩
      obtain ⟨v, hv, hm1⟩ := atI_in (xs := (["", "a", "tabl", "rest", "part", "zzzzzzz"] : List Str).map V.str) z20 z21
      refine ⟨l, _, z2, v, rfl, rfl, SqL.of (B3.same _ _ upd_same), hv, ?_⟩
      obtain ⟨stem, hst, rfl⟩ := List.mem_map.mp hm1
      have hstem : sOk 7 stem := by
        have all : ∀ s ∈ (["", "a", "tabl", "rest", "part", "zzzzzzz"] : List Str), sOk 7 s := by
          unfold sOk
          decide +kernel
        exact all _ hst
      have B4 := B3.low B2.2
      refine ⟨_, rfl, H0, p, _, 26, rfl, B4, by omega, by decide, by decide, fun zf H3 zf0 zf1 B5 => ?_⟩
      refine ⟨(by show 6 ≤ sizeLine; decide), fun l2 hl2 => ?_⟩
      have B6 := B5.new (o := .lst ([1, 3, 5, 7, 9, 11].map V.int)) hl2
      refine ⟨_, rfl, _, p, _, 6, rfl, B6.1, by omega, by decide, by decide, fun z3 H4 z30 z31 B7 => ?_⟩
      obtain ⟨v3, hv3, hm3⟩ := atI_in (xs := ([1, 3, 5, 7, 9, 11] : List Int).map V.int) z30 z31
      refine ⟨l2, _, z3, v3, rfl, rfl, SqL.of (B7.same _ _ upd_same), hv3, ?_⟩
      obtain ⟨stp, hstp, rfl⟩ := List.mem_map.mp hm3
      have B8 := B7.low B6.2
      refine ⟨_, rfl, H0, p, _, 3, rfl, B8, by omega, by decide, by decide, fun zw H5 zw0 zw1 B9 => ⟨_, _, _, rfl, ?_⟩⟩
      refine ⟨(by show 0 ≤ sizeLine; decide), fun f hf => ?_⟩
      have hfp := pn B9 hf
      have hf0 : H0 f = none := B9.same.free hf
      refine ⟨_, rfl, m, rfl, ?_, ?_, for_range (fun i σ H' => ∃ (v3 v9 v10 v11 : Option V) (ss : List Str), σ = [some (.ref p), some (.int m), some (.str "abcdefghijklmnopqrstuvwxyz"), v3, some (.str stem), some (.int zf), some (.int stp), some (.int zw), some (.ref f), v9, v10, v11] ∧ H' f = some (.lst (ss.map V.str)) ∧ ss.length = i ∧ (∀ s ∈ ss, sOk 16 s) ∧ ss = (List.range i).map (nmS stem zf stp zw) ∧ BoxIn H0 H' p (n + 5)) ⟨_, none, none, none, [], rfl, upd_same, rfl, (fun s h => by cases h), rfl, B9.mut hfp hf0⟩ ?_ ?_⟩
      · omega
      · omega
      · rintro i σ H6 hi ⟨v3, v9, v10, v11, ss, rfl, hff, hlen, hok, hss, C⟩
        have hstp2 : 0 ≤ stp ∧ stp ≤ 11 := by
          have all : ∀ i ∈ ([1, 3, 5, 7, 9, 11] : List Int), 0 ≤ i ∧ i ≤ 11 := by decide
          exact all _ hstp
        refine ⟨_, rfl, _, rfl, _, rfl, _, rfl, _, _, rfl, rfl, .inl ⟨by omega, by omega⟩, _, _, rfl, rfl, _, _, rfl, rfl, (by show (0 : Int) < 26; decide), ?_⟩
        have e26 : ("abcdefghijklmnopqrstuvwxyz" : Str).cps.toList.length = 26 := by decide +kernel
        obtain ⟨ch, hch, hmc⟩ := atI_in (xs := ("abcdefghijklmnopqrstuvwxyz" : Str).cps.toList) (z := (zf + stp * (0 + (i : Int))) % 26) (Int.emod_nonneg _ (by decide)) (by rw [e26]; exact Int.emod_lt_of_pos _ (by decide))
        have hch2 := letter_at (Int.emod_nonneg _ (by decide)) (Int.emod_lt_of_pos _ (by decide)) hch
        rw [Int.zero_add] at hch2
        have hsg : sOk 1 (⟨#[ch]⟩ : Str) := by
          refine ⟨Nat.le_refl _, strOk_sign ?_⟩
          have all : ∀ c ∈ ("abcdefghijklmnopqrstuvwxyz" : Str).cps.toList, c < 0x110000 := by decide +kernel
          exact all _ hmc
        refine ⟨_, _, ch, rfl, rfl, by decide +kernel, hch, ?_⟩
        have l1 : stem.length + (⟨#[ch]⟩ : Str).length ≤ sizeLine := Nat.le_trans (Nat.add_le_add hstem.1 hsg.1) (by decide)
        have l2' : (⟨#[ch]⟩ : Str).length + stem.length ≤ sizeLine := Nat.le_trans (Nat.add_le_add hsg.1 hstem.1) (by decide)
        refine ⟨_, rfl, _, rfl, _, _, rfl, rfl, l1, _, rfl, _, rfl, _, _, rfl, rfl, l2', _, rfl, (by show 3 ≤ sizeLine; decide), fun l3 hl3 => ?_⟩
        have hfl3 : f ≠ l3 := ne_of_none hff hl3
        have C2 := C.keep (same_new (o := .lst [V.str (stem ++ ⟨#[ch]⟩), .str ((⟨#[ch]⟩ : Str) ++ stem), .str ⟨#[ch]⟩]) hl3)
        have pick : ∀ z : Int, 0 ≤ z → z < 3 → ∃ s : Str, atI [V.str (stem ++ ⟨#[ch]⟩), .str ((⟨#[ch]⟩ : Str) ++ stem), .str ⟨#[ch]⟩] z = some (.str s) ∧ sOk 16 s ∧ nmC stem z.toNat (97 + ((zf + stp * (i : Int)) % 26).toNat) = (if s = ("table" : Str) then ("tables" : Str) else s) := fun z z0 z3 => by
          obtain ⟨v, hv, hm⟩ := atI_in (xs := [V.str (stem ++ ⟨#[ch]⟩), .str ((⟨#[ch]⟩ : Str) ++ stem), .str ⟨#[ch]⟩]) z0 z3
          simp only [List.mem_cons, List.not_mem_nil, or_false] at hm
          rcases hm with rfl | rfl | rfl
          · exact ⟨_, hv, (hstem.app hsg).mono (by decide), by rw [form_at z0 z3 hv, ← hch2]; rfl⟩
          · exact ⟨_, hv, (hsg.app hstem).mono (by decide), by rw [form_at z0 z3 hv, ← hch2]; rfl⟩
          · exact ⟨_, hv, hsg.mono (by decide), by rw [form_at z0 z3 hv, ← hch2]; rfl⟩
        have hff2 : upd H6 l3 (.lst [V.str (stem ++ ⟨#[ch]⟩), .str ((⟨#[ch]⟩ : Str) ++ stem), .str ⟨#[ch]⟩]) f = some (.lst (ss.map V.str)) := by rw [upd_ne hfl3]; exact hff
        have hsz : (ss.map V.str).length < sizeLine := by
          rw [List.length_map, hlen]
          exact Nat.lt_of_lt_of_le (show i < 100 by omega) (by decide)
        have nx : ∀ s : Str, sOk 16 s → s = nmS stem zf stp zw i → upd (upd H6 l3 (.lst [V.str (stem ++ ⟨#[ch]⟩), .str ((⟨#[ch]⟩ : Str) ++ stem), .str ⟨#[ch]⟩])) f (.lst (ss.map V.str ++ [V.str s])) f = some (.lst ((ss ++ [s]).map V.str)) ∧ (ss ++ [s]).length = i + 1 ∧ (∀ x ∈ ss ++ [s], sOk 16 x) ∧ ss ++ [s] = (List.range (i + 1)).map (nmS stem zf stp zw) ∧
            BoxIn H0 (upd (upd H6 l3 (.lst [V.str (stem ++ ⟨#[ch]⟩), .str ((⟨#[ch]⟩ : Str) ++ stem), .str ⟨#[ch]⟩])) f (.lst (ss.map V.str ++ [V.str s]))) p (n + 5) := fun s hs he => by
          refine ⟨by rw [upd_same, List.map_append]; rfl, by simp [hlen], fun x hx => ?_, by rw [List.range_succ, List.map_append, ← hss, he]; rfl, C2.mut hfp hf0⟩
          rcases List.mem_append.mp hx with q | q
          · exact hok x q
          · rw [List.mem_singleton.mp q]
            exact hs
        refine ⟨_, rfl, _, _, rfl, rfl, _, rfl, ?_⟩
        refine ite2 (fun c => ?_) (fun c => ?_)
        · have i0 : i ≠ 0 := by
            have := of_decide_eq_true c
            omega
          obtain ⟨nm, hnm, hok2, hf2⟩ := pick zw zw0 zw1
          have hnn : nmS stem zf stp zw i = if nm = ("table" : Str) then ("tables" : Str) else nm := by
            unfold nmS
            rw [if_neg i0]
            exact hf2
          refine ⟨_, rfl, l3, _, zw, _, rfl, rfl, SqL.of upd_same, hnm, ?_⟩
          refine ⟨_, rfl, .inl ⟨rfl, _, .inl (.inl hff2)⟩, _, rfl, rfl, _, rfl, ?_⟩
          refine ite2 (fun c => ?_) (fun c => ?_)
          · have ct : nm = ("table" : Str) := by
              have := of_decide_eq_true c
              injection this
            obtain ⟨n1, n2, n3, n4, n5⟩ := nx "tables" (by unfold sOk; decide +kernel) (by rw [hnn, if_pos ct])
            exact ⟨f, _, _, rfl, rfl, hff2, hsz, _, _, _, _, _, rfl, n1, n2, n3, n4, n5⟩
          · have ct : nm ≠ ("table" : Str) := fun e => c (by rw [e]; exact decide_eq_true rfl)
            obtain ⟨n1, n2, n3, n4, n5⟩ := nx nm hok2 (by rw [hnn, if_neg ct])
            exact ⟨_, rfl, f, _, _, rfl, rfl, hff2, hsz, _, _, _, _, _, rfl, n1, n2, n3, n4, n5⟩
        · have i0 : i = 0 := by
            by_cases h : i = 0
            · exact h
            · exact absurd (decide_eq_true (by omega)) c
          obtain ⟨nm, hnm, hok2, hf2⟩ := pick 0 (by decide) (by decide)
          have hnn : nmS stem zf stp zw i = if nm = ("table" : Str) then ("tables" : Str) else nm := by
            unfold nmS
            rw [if_pos i0]
            exact hf2
          refine ⟨l3, _, 0, _, rfl, rfl, SqL.of upd_same, hnm, ?_⟩
          refine ⟨_, rfl, .inl ⟨rfl, _, .inl (.inl hff2)⟩, _, rfl, rfl, _, rfl, ?_⟩
          refine ite2 (fun c => ?_) (fun c => ?_)
          · have ct : nm = ("table" : Str) := by
              have := of_decide_eq_true c
              injection this
            obtain ⟨n1, n2, n3, n4, n5⟩ := nx "tables" (by unfold sOk; decide +kernel) (by rw [hnn, if_pos ct])
            exact ⟨f, _, _, rfl, rfl, hff2, hsz, _, _, _, _, _, rfl, n1, n2, n3, n4, n5⟩
          · have ct : nm ≠ ("table" : Str) := fun e => c (by rw [e]; exact decide_eq_true rfl)
            obtain ⟨n1, n2, n3, n4, n5⟩ := nx nm hok2 (by rw [hnn, if_neg ct])
            exact ⟨_, rfl, f, _, _, rfl, rfl, hff2, hsz, _, _, _, _, _, rfl, n1, n2, n3, n4, n5⟩
      · rintro σ H6 ⟨v3, v9, v10, v11, ss, rfl, hff, hlen, hok, hss, C⟩
        refine ⟨_, rfl, ?_⟩
        have fin : ss = (List.range m).map (nmS stem zf stp zw) := by
          rw [hss]
          congr 2
        exact k f H6 ss C.same hf0 hfp hff (by rw [hlen]; simp) hok (fun s hs => by
          rw [fin] at hs
          obtain ⟨j, _, rfl⟩ := List.mem_map.mp hs
          exact nmS_ok hst zw0 zw1 j) (by rw [fin]; exact nmS_nodup hst hstp zw0 zw1 hm) (C.mono (by omega))
theorem ok_is_integer (T : Txt K mg base) : FnOk P w K mg base CX0 1 T.f_is_integer T.fd_is_integer ["value"] (sp_vO K intO) := by
  refine T.F_is_integer.ok sc_is_integer (fun vs H Q E h => ?_) (fun cdv A outer s H vs Q E hr h => ?_)
  · obtain ⟨v, o, rfl, _⟩ := h
    rfl
  · obtain ⟨v, o, rfl, ty, _, k⟩ := h
    refine ⟨_, (pss_one (ps_ret (pe_and (pe_callB (id := "isinstance") call_isi (by rfl) T.z_isinstance (by decide +kernel) (pa_cons (pv 0) (pa_cons (pe_bltn (v := .ty "int") (u := .type "int") (by rfl) T.z_int (by decide +kernel) rfl) pa_nil))) (pe_one (pe_not (pe_callB (id := "isinstance") call_isi (by rfl) T.z_isinstance (by decide +kernel) (pa_cons (pv 0) (pa_cons (pe_bltn (v := .ty "bool") (u := .type "bool") (by rfl) T.z_bool (by decide +kernel) rfl) pa_nil)))))))), ?_⟩
    refine ⟨_, rfl, _, _, _, _, _, rfl, .ty _, ty, kit_o o (.inl rfl), _, rfl, ?_⟩
    unfold intO at k
    cases e : isT "int" o with
    | true =>
      rw [e] at k
      exact iteT ⟨_, rfl, _, _, _, _, _, rfl, .ty _, ty, kit_o o (.inr (.inl rfl)), _, rfl, k⟩
    | false =>
      rw [e] at k
      exact iteF k
theorem ok_is_limit (T : Txt K mg base) : FnOk P w K mg base CX0 2 T.f_is_limit T.fd_is_limit ["value"] (sp_vO K limO) := by
  refine T.F_is_limit.ok sc_is_limit (fun vs H Q E h => ?_) (fun cdv A outer s H vs Q E hr h => ?_)
  · obtain ⟨v, o, rfl, _⟩ := h
    rfl
  · obtain ⟨v, o, rfl, ty, hn, k⟩ := h
    refine ⟨_, (pss_one (ps_ret (pe_or (pe_cmpR op_isN (pv 0) pe_non (nomark _)) (pe_one (pe_call (ok_is_integer T) hr rfl T.m_is_integer T.F_is_integer.kp T.b_is_integer .nil pass0 (pa_cons (pv 0) pa_nil)))))), ?_⟩
    refine ⟨_, rfl, rfl, _, rfl, ?_⟩
    unfold limO at k
    rw [hn]
    cases e : nonO o with
    | true =>
      rw [e] at k
      exact iteT k
    | false =>
      rw [e] at k
      exact iteF ⟨_, rfl, v, o, rfl, ty, hn, k⟩
theorem ok_is_span (T : Txt K mg base) : FnOk P w K mg base CX0 3 T.f_is_span T.fd_is_span ["value"] (sp_v1 K spanO) := by
  refine T.F_is_span.ok sc_is_span (fun vs H Q E h => ?_) (fun cdv A outer s H vs Q E hr h => ?_)
  · obtain ⟨v, o, rfl, _⟩ := h
    rfl
  · obtain ⟨v, o, rfl, hv, k⟩ := h
    have ty := hv.ty
    have k := k H (Same.refl H)
    refine ⟨_, (pss_cons (ps_if (PW.pt (pw_or (pt_not (pt_val (pe_callB (id := "isinstance") call_isi (by rfl) T.z_isinstance (by decide +kernel) (pa_cons (pv 0) (pa_cons (pe_bltn (v := .ty "tuple") (u := .type "tuple") (by rfl) T.z_tuple (by decide +kernel) rfl) pa_nil))))) (pw_or1 (pt_cmpR op_ne (pe_callB (id := "len") call_len_seq (by rfl) T.z_len (by decide +kernel) (pa_cons (pv 0) pa_nil)) pe_int (nomark _))))) (pss_one (ps_ret pe_bl)) pss_nil)
        (pss_cons (ps_asg (pv 0) (pg_tup rfl (pgs_cons (pg_name (i := 1) sc_is_span.nd rfl (Or.inl rfl)) (pgs_cons (pg_name (i := 2) sc_is_span.nd rfl (Or.inl rfl)) pgs_nil))))
        (pss_cons (ps_if (PW.pt (pw_or (pt_not (pt_val (pe_call (ok_is_limit T) hr rfl T.m_is_limit T.F_is_limit.kp T.b_is_limit .nil pass0 (pa_cons (pv 1) pa_nil)))) (pw_or1 (pt_not (pt_val (pe_call (ok_is_limit T) hr rfl T.m_is_limit T.F_is_limit.kp T.b_is_limit .nil pass0 (pa_cons (pv 2) pa_nil))))))) (pss_one (ps_ret pe_bl)) pss_nil)
        (pss_one (ps_ret (pe_or (pe_cmpR op_isN (pv 1) pe_non (nomark _)) (pe_or (pe_cmpR op_isN (pv 2) pe_non (nomark _)) (pe_one (pe_cmpR op_lt (pv 1) (pv 2) (nomark _)))))))))), ?_⟩
    refine ⟨_, rfl, _, _, _, _, _, rfl, .ty _, ty, kit_o o (.inr (.inr (.inr rfl))), _, rfl, ?_⟩
    cases e : isT "tuple" o with
    | false =>
      have e2 : spanO o = false := by
        rcases o with _ | d
        · rfl
        · cases d with
          | tuple s => cases e
          | _ => rfl
      rw [e2] at k
      exact iteT (iteT k)
    | true =>
      obtain ⟨a, xs, ds, rfl, rfl, hT, hD⟩ : ∃ a xs ds, v = .ref a ∧ o = some (.tuple ds) ∧ SqT K H a xs ∧ DpAll K H xs ds := by
        cases hv with
        | dat a _ c =>
          cases a with
          | tup h1 h2 => exact ⟨_, _, _, rfl, rfl, h1, h2⟩
          | _ => cases e
        | dic a => cases e
      have hlen := dpAll_len hD
      refine iteF ⟨_, rfl, _, _, rfl, .inr hT, rfl, _, rfl, ?_⟩
      show (if (!decide (V.int (xs.length : Int) = V.int 2)) = true then _ else _)
      rw [dec_int]
      by_cases e2 : xs.length = 2
      · have e3 : (((xs.length : Nat) : Int) == 2) = true := by rw [e2]; rfl
        rw [e3]
        refine iteF ?_
        obtain ⟨x, y, d, d2, rfl, rfl, h1, h2⟩ := dp_two hD e2
        have t1 := dp_vO h1
        have t2 := dp_vO h2
        refine ⟨_, rfl, a, _, rfl, hT, rfl, _, _, rfl, _, _, rfl, rfl, ?_⟩
        have k : Q (.bl (limO (some d) && (limO (some d2) && ltO d d2))) H := k
        refine ⟨_, rfl, _, some d, rfl, t1.1, t1.2, _, rfl, ?_⟩
        cases l1 : limO (some d) with
        | false =>
          rw [l1] at k
          exact iteT (iteT k)
        | true =>
          rw [l1] at k
          refine iteF ⟨_, rfl, _, some d2, rfl, t2.1, t2.2, _, rfl, ?_⟩
          cases l2 : limO (some d2) with
          | false =>
            rw [l2] at k
            exact iteT k
          | true =>
            rw [l2] at k
            refine iteF ⟨_, rfl, rfl, _, rfl, ?_⟩
            have k : Q (.bl (ltO d d2)) H := k
            cases h1 with
            | non => exact iteT k
            | int i =>
              refine iteF ⟨_, rfl, rfl, _, rfl, ?_⟩
              cases h2 with
              | non => exact iteT k
              | int j => exact iteF ⟨_, rfl, _, rfl, _, _, rfl, rfl, k⟩
              | _ => cases l2
            | _ => cases l1
      · have e3 : (((xs.length : Nat) : Int) == 2) = false := by
          rw [beq_eq_false_iff_ne]
          omega
        rw [e3]
        have e4 : spanO (some (.tuple ds)) = false := spanO_no fun q => e2 (hlen.trans q)
        rw [e4] at k
        exact iteT k
theorem ok_is_name (T : Txt K mg base) : FnOk P w K mg base CX0 1 T.f_is_name T.fd_is_name ["value"] (sp_v1 K nameO) := by
  refine T.F_is_name.ok sc_is_name (fun vs H Q E h => ?_) (fun cdv A outer s H vs Q E hr h => ?_)
  · obtain ⟨v, o, rfl, _⟩ := h
    rfl
  · obtain ⟨v, o, rfl, hv, k⟩ := h
    have ty := hv.ty
    refine ⟨_, (pss_cons (ps_if (PW.pt (pw_or (pt_not (pt_val (pe_callB (id := "isinstance") call_isi (by rfl) T.z_isinstance (by decide +kernel) (pa_cons (pv 0) (pa_cons (pe_bltn (v := .ty "str") (u := .type "str") (by rfl) T.z_str (by decide +kernel) rfl) pa_nil))))) (pw_or1 (pt_cmpR op_eq (pv 0) pe_str (nomark _))))) (pss_one (ps_ret pe_bl)) pss_nil)
        (pss_one (ps_ret (pe_and (pe_chain op_le op_le pe_int (pe_callB (id := "len") call_len_str (by rfl) T.z_len (by decide +kernel) (pa_cons (pv 0) pa_nil)) (pe_glob (v := .int 8) rfl T.c_LONGEST_NAME ⟨_, rfl⟩)) (pe_one (pe_callB (id := "all") (cr_all rfl) (by rfl) T.z_all (by decide +kernel) (pa_cons (pe_lc (own := [("sign", 1)]) (g := gName 1) (tt := tYes) rfl sc_is_name.nd (pi_str (pv 0)) (blkOk_by (own := [("sign", 1)]) (N := ["value", "sign"]) (sc := defScope s_is_name) (by decide +kernel)) (fun _ _ _ _ _ => (pg_name (i := 1) sc_is_name.nd rfl (Or.inl rfl))) (fun _ _ _ _ _ => pts_nil) (fun _ _ _ _ _ => (pe_chain op_le_str op_le_str pe_str (pv 1) pe_str))) pa_nil))))))), ?_⟩
    refine ⟨_, rfl, _, _, _, _, _, rfl, .ty _, ty, kit_o o (.inr (.inr (.inl rfl))), _, rfl, ?_⟩
    cases e : isT "str" o with
    | false =>
      have e2 : nameO o = false := by
        rcases o with _ | d
        · rfl
        · cases d with
          | str s => cases e
          | _ => rfl
      rw [e2] at k
      exact iteT (iteT (k H (Same.refl H)))
    | true =>
      obtain ⟨s, rfl, rfl, hs⟩ : ∃ s, v = .str s ∧ o = some (.str s) ∧ s.length ≤ 1000 := by
        cases hv with
        | dat a _ c =>
          cases a with
          | str s => exact ⟨s, rfl, rfl, c s rfl⟩
          | _ => cases e
        | dic a => cases e
      have hz : s.length ≤ sizeLine := Nat.le_trans hs (by decide)
      refine iteF ⟨_, rfl, rfl, _, rfl, ?_⟩
      have k : ∀ H', Same H H' → Q (.bl (nameS s)) H' := k
      unfold nameS at k
      rw [dec_str]
      cases e1 : s == ("table" : Str) with
      | true =>
        rw [e1] at k
        exact iteT (k H (Same.refl H))
      | false =>
        rw [e1] at k
        refine iteF ?_
        have k : ∀ H', Same H H' → Q (.bl (decide ((1 : Int) ≤ s.length) && (decide ((s.length : Int) ≤ 8) && s.cps.toList.all okSign))) H' := k
        refine ⟨_, rfl, _, rfl, hz, _, _, rfl, rfl, _, rfl, ?_⟩
        cases e2 : decide ((1 : Int) ≤ s.length) with
        | false =>
          rw [e2] at k
          exact iteF ⟨_, rfl, iteF (k H (Same.refl H))⟩
        | true =>
          rw [e2] at k
          refine iteT ⟨_, _, rfl, rfl, _, rfl, ?_⟩
          cases e3 : decide ((s.length : Int) ≤ 8) with
          | false =>
            rw [e3] at k
            exact iteF (k H (Same.refl H))
          | true =>
            rw [e3] at k
            refine iteT ⟨_, rfl, _, rfl, ?_⟩
            intro D hD
            refine lc_acc walk_str hD (fun _ _ => trivial) (fun i => (s.cps.toList.take i).map fun c => V.bl (okSign c)) rfl (fun i hi => ?_) ?_ ?_
            · rw [List.length_map, List.length_take]
              have : s.cps.size ≤ 1000 := hs
              exact Nat.lt_of_le_of_lt (Nat.min_le_left _ _) (Nat.lt_of_lt_of_le hi (Nat.le_trans this (by decide)))
            · rintro i x H2 hi ⟨c, hc, rfl⟩ s1 R S r1 r2
              have ea : ((s.cps.toList.take (i + 1)).map fun c => V.bl (okSign c)) = ((s.cps.toList.take i).map fun c => V.bl (okSign c)) ++ [V.bl (okSign c)] := by
                have hc' : s.cps.toList[i]? = some c := by rw [Array.getElem?_toList]; exact hc
                rw [List.take_add_one, hc']
                simp
              refine ⟨rfl, tyes ⟨_, rfl, _, _, rfl, rfl, _, rfl, ?_⟩⟩
              have ec : okSign c = (!decide (([c] : List Nat) < [97]) && !decide (([122] : List Nat) < [c])) := rfl
              have ea1 : ("a" : Str).cps.toList = [97] := by decide +kernel
              have ez1 : ("z" : Str).cps.toList = [122] := by decide +kernel
              rw [ea1]
              cases e4 : (!decide (([c] : List Nat) < [97])) with
              | false =>
                rw [e4] at ec
                refine iteF (r1 _ _ ?_ (Same.refl _))
                rw [ea, ec]
                rfl
              | true =>
                rw [e4] at ec
                refine iteT ⟨_, _, rfl, rfl, r1 _ _ ?_ (Same.refl _)⟩
                rw [ea, ec, ez1]
                rfl
            · intro H2 s1 hl
              refine ⟨D, s.cps.toList.map okSign, rfl, SqL.of ?_, ?_⟩
              · rw [hl, List.map_map]
                have : s.cps.toList.take s.cps.size = s.cps.toList := by rw [← Array.length_toList, List.take_length]
                rw [this]
                rfl
              · have := k H2 s1
                rw [List.all_map]
                exact this
theorem ok_InvalidSpan_init (T : Txt K mg base) : FnOk P w K mg base CX0 1 T.f_InvalidSpan_init T.fd_InvalidSpan_init ["self", "value"] (sp_xinit K T.C_InvalidSpan "value") := by
  refine T.F_InvalidSpan_init.ok sc_InvalidSpan_init (fun vs H Q E h => ?_) (fun cdv A outer s H vs Q E hr h => ?_)
  · obtain ⟨a, v, rfl, _⟩ := h
    rfl
  · obtain ⟨a, v, rfl, x, n, ha, k⟩ := h
    refine ⟨_, (pss_one (ps_ost (pv 0) (pv 1))), ?_⟩
    exact ⟨_, rfl, _, rfl, a, T.C_InvalidSpan, rfl, x, n, .inl ⟨ha, k⟩⟩
theorem ok_require_span (T : Txt K mg base) : FnOk P w K mg base (L2N.CX P w) 4 T.f_require_span T.fd_require_span ["value"] (sp_req K spanO T.C_InvalidSpan "value") := by
  refine okXN T.F_require_span sc_require_span (fun vs H Q E h => ?_) (fun cdv A outer s H vs Q E hr h => ?_)
  · obtain ⟨v, o, rfl, _⟩ := h
    rfl
  · obtain ⟨v, o, rfl, hv, k1, k2⟩ := h
    refine ⟨_, (pss_one (ps_if (pt_not (pt_val (pe_call (ok_is_span T) hr rfl T.m_is_span T.F_is_span.kp T.b_is_span .nil pass0 (pa_cons (pv 0) pa_nil)))) (pss_one (L2N.ps_raise rfl (L2N.takes_of rfl rfl rfl rfl) (pmkN_oex T.x_InvalidSpan T.i_InvalidSpan T.t_InvalidSpan (ok_InvalidSpan_init T) (hr.mono (by decide)) T.b_InvalidSpan_init pass0 rfl T.g_InvalidSpan (pa_cons (pv 0) pa_nil)))) pss_nil)), ?_⟩
    refine ⟨_, rfl, v, o, rfl, hv, fun H1 s1 => ⟨_, rfl, ?_⟩⟩
    cases e : spanO o with
    | true => exact iteF (k1 e H1 s1)
    | false => exact iteT ⟨_, rfl, raise_x T.x_InvalidSpan T.n_InvalidSpan ((k2 e).back s1)⟩
theorem ok_common (T : Txt K mg base) : FnOk P w K mg base (L2N.CX P w) 5 T.f_common T.fd_common ["one", "other"] (sp_common K T.C_InvalidSpan) := by
  refine okXN T.F_common sc_common (fun vs H Q E h => ?_) (fun cdv A outer s H vs Q E hr h => ?_)
  · obtain ⟨x, y, o, o2, rfl, _⟩ := h
    rfl
  · obtain ⟨x, y, o, o2, rfl, hx, hy, k1, k2, k3⟩ := h
    refine ⟨_, (pss_cons (ps_expr (pe_call (ok_require_span T) hr rfl T.m_require_span T.F_require_span.kp T.b_require_span .nil (passCN (L2N.takes_of rfl rfl rfl rfl)) (pa_cons (pv 0) pa_nil)))
        (pss_cons (ps_expr (pe_call (ok_require_span T) hr rfl T.m_require_span T.F_require_span.kp T.b_require_span .nil (passCN (L2N.takes_of rfl rfl rfl rfl)) (pa_cons (pv 1) pa_nil)))
        (pss_cons (ps_setLc (i := 2) (own := [("low", 5)]) (g := gName 5) rfl sc_common.nd rfl rfl (sw_true rfl rfl rfl (by decide +kernel)) (pi_tup (pe_tup (pa_cons (pe_ix ix_tup (pv 0) pe_int (fun _ _ => rfl)) (pa_cons (pe_ix ix_tup (pv 1) pe_int (fun _ _ => rfl)) pa_nil)))) (blkOk_by (own := [("low", 5)]) (N := ["one", "other", "lows", "highs", "both", "low", "high"]) (sc := defScope s_common) (by decide +kernel)) (fun _ _ _ _ _ => (pg_name (i := 5) sc_common.nd rfl (Or.inl rfl))) (fun _ _ _ _ _ => (pts_one (pt_cmpR op_notN (pv 5) pe_non (nomark _)))) (fun _ _ _ _ _ => (pv 5)))
        (pss_cons (ps_setLc (i := 3) (own := [("high", 6)]) (g := gName 6) rfl sc_common.nd rfl rfl (sw_true rfl rfl rfl (by decide +kernel)) (pi_tup (pe_tup (pa_cons (pe_ix ix_tup (pv 0) pe_int (fun _ _ => rfl)) (pa_cons (pe_ix ix_tup (pv 1) pe_int (fun _ _ => rfl)) pa_nil)))) (blkOk_by (own := [("high", 6)]) (N := ["one", "other", "lows", "highs", "both", "low", "high"]) (sc := defScope s_common) (by decide +kernel)) (fun _ _ _ _ _ => (pg_name (i := 6) sc_common.nd rfl (Or.inl rfl))) (fun _ _ _ _ _ => (pts_one (pt_cmpR op_notN (pv 6) pe_non (nomark _)))) (fun _ _ _ _ _ => (pv 6)))
        (pss_cons (ps_set (i := 4) sc_common.nd rfl (Or.inl rfl) (pe_tup (pa_cons (pe_callBK (id := "max") (ks := ["default"]) (cr_maxD rfl hr.units) (by rfl) T.z_max (by decide +kernel) (pa_cons (pv 2) pa_nil) (pk_cons pe_non pk_nil)) (pa_cons (pe_callBK (id := "min") (ks := ["default"]) (cr_minD rfl hr.units) (by rfl) T.z_min (by decide +kernel) (pa_cons (pv 3) pa_nil) (pk_cons pe_non pk_nil)) pa_nil))))
        (pss_one (ps_ret (pe_ifExp (pt_val (pe_call (ok_is_span T) (hr.mono (by decide)) rfl T.m_is_span T.F_is_span.kp T.b_is_span .nil pass0 (pa_cons (pv 4) pa_nil))) (pv 4) pe_non)))))))), ?_⟩
    refine ⟨_, rfl, x, o, rfl, hx, fun e1 H1 s1 => ?_, fun e => k1 e⟩
    refine ⟨_, rfl, y, o2, rfl, hy.mono s1, fun e2 H2 s2 => ?_, fun e => (k2 e1 e).back s1⟩
    obtain ⟨s', rfl, os⟩ := spanO_of e1
    obtain ⟨t, rfl, ot⟩ := spanO_of e2
    obtain ⟨kT, kF⟩ := k3 s' t rfl os rfl ot
    obtain ⟨a, rfl, ha⟩ := hx.sp
    obtain ⟨b, rfl, hb⟩ := hy.sp
    have s12 := s1.trans s2
    have ha2 := same_t s12 ha
    have hb2 := same_t s12 hb
    refine ⟨_, rfl, a, _, 0, limV s'.1, rfl, rfl, ha2, atI_nat (j := 0) rfl, _, rfl, b, _, 0, limV t.1, rfl, rfl, hb2, atI_nat (j := 0) rfl, (by show 2 ≤ sizeLine; decide), fun q hq => ?_⟩
    refine ⟨q, rfl, ⟨_, SqT.of upd_same⟩, fun D hD => ?_⟩
    have s3 := same_new (o := .tup [limV s'.1, limV t.1]) hq
    refine lc_acc walk_tup hD (fun H' k => SqT.of (k _ _ upd_same)) (fun i => ([limV s'.1, limV t.1].take i).filter fun v => !decide (v = .non)) rfl (fun i _ => Nat.lt_of_le_of_lt (List.length_filter_le _ _) (Nat.lt_of_le_of_lt (by rw [List.length_take]; exact Nat.min_le_right _ _) (by show 2 < sizeLine; decide))) ?_ ?_
    · rintro i z H3 hi hz k R S r1 r2
      refine ⟨rfl, _, rfl, rfl, _, rfl, ?_⟩
      have hz' : [limV s'.1, limV t.1][i]? = some z := hz
      cases e : decide (z = V.non) with
      | true => exact iteF (r2 _ (by rw [List.take_add_one, hz']; simp [e]) (Same.refl _))
      | false => exact iteT ⟨_, rfl, r1 _ _ (by rw [List.take_add_one, hz']; simp [e]) (Same.refl _)⟩
    intro H3 s4 hl
    have s123 := s12.trans (s3.trans s4)
    have el : (([limV s'.1, limV t.1].take 2).filter fun v => !decide (v = .non)) = (lowsL s'.1 t.1).map V.int := by
      cases s'.1 <;> cases t.1 <;> rfl
    have hl : H3 D = some (.lst ((lowsL s'.1 t.1).map V.int)) := by
      rw [← el]
      exact hl
    have ha3 := same_t (s3.trans s4) ha2
    have hb3 := same_t (s3.trans s4) hb2
    refine ⟨_, rfl, a, _, 1, limV s'.2, rfl, rfl, ha3, atI_nat (j := 1) rfl, _, rfl, b, _, 1, limV t.2, rfl, rfl, hb3, atI_nat (j := 1) rfl, (by show 2 ≤ sizeLine; decide), fun q2 hq2 => ?_⟩
    refine ⟨q2, rfl, ⟨_, SqT.of upd_same⟩, fun D2 hD2 => ?_⟩
    have s5 := same_new (o := .tup [limV s'.2, limV t.2]) hq2
    refine lc_acc walk_tup hD2 (fun H' k => SqT.of (k _ _ upd_same)) (fun i => ([limV s'.2, limV t.2].take i).filter fun v => !decide (v = .non)) rfl (fun i _ => Nat.lt_of_le_of_lt (List.length_filter_le _ _) (Nat.lt_of_le_of_lt (by rw [List.length_take]; exact Nat.min_le_right _ _) (by show 2 < sizeLine; decide))) ?_ ?_
    · rintro i z H4 hi hz k R S r1 r2
      refine ⟨rfl, _, rfl, rfl, _, rfl, ?_⟩
      have hz' : [limV s'.2, limV t.2][i]? = some z := hz
      cases e : decide (z = V.non) with
      | true => exact iteF (r2 _ (by rw [List.take_add_one, hz']; simp [e]) (Same.refl _))
      | false => exact iteT ⟨_, rfl, r1 _ _ (by rw [List.take_add_one, hz']; simp [e]) (Same.refl _)⟩
    intro H4 s6 hl2
    have el2 : (([limV s'.2, limV t.2].take 2).filter fun v => !decide (v = .non)) = (lowsL s'.2 t.2).map V.int := by
      cases s'.2 <;> cases t.2 <;> rfl
    have hl2 : H4 D2 = some (.lst ((lowsL s'.2 t.2).map V.int)) := by
      rw [← el2]
      exact hl2
    have s56 := s5.trans s6
    have hl4 := s56 _ _ hl
    have s1234 := s123.trans s56
    -- both = (max(..), min(..)), then what follows
    have fin : ∀ v1 v2, v1 = limV (comS s' t).1 → v2 = limV (comS s' t).2 → ∀ H5 p, H4 p = none → H5 = upd H4 p (.tup [v1, v2]) → VD K H5 (.ref p) (some (spD (comS s' t))) ∧ Same H H5 ∧ H5 p = some (.tup (spV (comS s' t))) ∧ H p = none := by
      rintro v1 v2 rfl rfl H5 p hp rfl
      exact ⟨vd_sp (SqT.of upd_same), s1234.trans (same_new hp), upd_same, s1234.free hp⟩
    refine ⟨_, rfl, D, _, .non, rfl, rfl, SqL.of hl4, fun e => ?_, fun m hm hle => ?_⟩
    all_goals
      refine ⟨_, rfl, D2, _, .non, rfl, rfl, SqL.of hl2, fun e' => ?_, fun m' hm' hle' => ?_⟩
      all_goals
        refine ⟨(by show 2 ≤ sizeLine; decide), fun p hp => ?_⟩
        obtain ⟨hv, s7, hp5, hp0⟩ := fin _ _ (by first | exact max_none e | exact max_some hm hle) (by first | exact min_none e' | exact min_some hm' hle') _ p hp rfl
        refine ⟨_, rfl, _, _, rfl, hv, fun H6 s8 => ⟨_, rfl, ?_⟩⟩
        rw [spanO_ok]
        cases ec : okS (comS s' t) with
        | true => exact iteT ⟨_, rfl, kT ec p H6 (s7.trans s8) hp0 (s8 _ _ hp5)⟩
        | false => exact iteF (kF ec H6 (s7.trans s8))
theorem ok_meet (T : Txt K mg base) : FnOk P w K mg base (L2N.CX P w) 6 T.f_meet T.fd_meet ["one", "other"] (sp_meet K T.C_InvalidSpan) := by
  refine okXN T.F_meet sc_meet (fun vs H Q E h => ?_) (fun cdv A outer s H vs Q E hr h => ?_)
  · obtain ⟨x, y, o, o2, rfl, _⟩ := h
    rfl
  · obtain ⟨x, y, o, o2, rfl, hx, hy, k1, k2, k3⟩ := h
    refine ⟨_, (pss_one (ps_ret (pe_cmpR op_notN (pe_call (ok_common T) hr rfl T.m_common T.F_common.kp T.b_common .nil (passCN (L2N.takes_of rfl rfl rfl rfl)) (pa_cons (pv 0) (pa_cons (pv 1) pa_nil))) pe_non (nomark _)))), ?_⟩
    refine ⟨_, rfl, _, rfl, x, y, o, o2, rfl, hx, hy, k1, k2, fun s' t e1 os e2 ot => ⟨fun ec p H' k hp hpp => ⟨rfl, ?_⟩, fun ec H' k => ⟨rfl, ?_⟩⟩⟩
    · have := k3 s' t e1 os e2 ot H' k
      rw [ec] at this
      exact this
    · have := k3 s' t e1 os e2 ot H' k
      rw [ec] at this
      exact this
theorem ok_InvalidName_init (T : Txt K mg base) : FnOk P w K mg base CX0 1 T.f_InvalidName_init T.fd_InvalidName_init ["self", "value"] (sp_xinit K T.C_InvalidName "value") := by
  refine T.F_InvalidName_init.ok sc_InvalidName_init (fun vs H Q E h => ?_) (fun cdv A outer s H vs Q E hr h => ?_)
  · obtain ⟨a, v, rfl, _⟩ := h
    rfl
  · obtain ⟨a, v, rfl, x, n, ha, k⟩ := h
    refine ⟨_, (pss_one (ps_ost (pv 0) (pv 1))), ?_⟩
    exact ⟨_, rfl, _, rfl, a, T.C_InvalidName, rfl, x, n, .inl ⟨ha, k⟩⟩
theorem ok_InvalidSpans_init (T : Txt K mg base) : FnOk P w K mg base CX0 1 T.f_InvalidSpans_init T.fd_InvalidSpans_init ["self", "value"] (sp_xinit K T.C_InvalidSpans "value") := by
  refine T.F_InvalidSpans_init.ok sc_InvalidSpans_init (fun vs H Q E h => ?_) (fun cdv A outer s H vs Q E hr h => ?_)
  · obtain ⟨a, v, rfl, _⟩ := h
    rfl
  · obtain ⟨a, v, rfl, x, n, ha, k⟩ := h
    refine ⟨_, (pss_one (ps_ost (pv 0) (pv 1))), ?_⟩
    exact ⟨_, rfl, _, rfl, a, T.C_InvalidSpans, rfl, x, n, .inl ⟨ha, k⟩⟩
theorem ok_NameTaken_init (T : Txt K mg base) : FnOk P w K mg base CX0 1 T.f_NameTaken_init T.fd_NameTaken_init ["self", "name"] (sp_xinit K T.C_NameTaken "name") := by
  refine T.F_NameTaken_init.ok sc_NameTaken_init (fun vs H Q E h => ?_) (fun cdv A outer s H vs Q E hr h => ?_)
  · obtain ⟨a, v, rfl, _⟩ := h
    rfl
  · obtain ⟨a, v, rfl, x, n, ha, k⟩ := h
    refine ⟨_, (pss_one (ps_ost (pv 0) (pv 1))), ?_⟩
    exact ⟨_, rfl, _, rfl, a, T.C_NameTaken, rfl, x, n, .inl ⟨ha, k⟩⟩
theorem ok_Overlap_init (T : Txt K mg base) : FnOk P w K mg base CX0 1 T.f_Overlap_init T.fd_Overlap_init ["self", "name"] (sp_xinit K T.C_Overlap "name") := by
  refine T.F_Overlap_init.ok sc_Overlap_init (fun vs H Q E h => ?_) (fun cdv A outer s H vs Q E hr h => ?_)
  · obtain ⟨a, v, rfl, _⟩ := h
    rfl
  · obtain ⟨a, v, rfl, x, n, ha, k⟩ := h
    refine ⟨_, (pss_one (ps_ost (pv 0) (pv 1))), ?_⟩
    exact ⟨_, rfl, _, rfl, a, T.C_Overlap, rfl, x, n, .inl ⟨ha, k⟩⟩
theorem ok_TooMany_init (T : Txt K mg base) : FnOk P w K mg base CX0 1 T.f_TooMany_init T.fd_TooMany_init ["self", "bound"] (sp_xinit K T.C_TooMany "bound") := by
  refine T.F_TooMany_init.ok sc_TooMany_init (fun vs H Q E h => ?_) (fun cdv A outer s H vs Q E hr h => ?_)
  · obtain ⟨a, v, rfl, _⟩ := h
    rfl
  · obtain ⟨a, v, rfl, x, n, ha, k⟩ := h
    refine ⟨_, (pss_one (ps_ost (pv 0) (pv 1))), ?_⟩
    exact ⟨_, rfl, _, rfl, a, T.C_TooMany, rfl, x, n, .inl ⟨ha, k⟩⟩
theorem ok_require_name (T : Txt K mg base) : FnOk P w K mg base (L2N.CX P w) 3 T.f_require_name T.fd_require_name ["value"] (sp_req K nameO T.C_InvalidName "value") := by
  refine okXN T.F_require_name sc_require_name (fun vs H Q E h => ?_) (fun cdv A outer s H vs Q E hr h => ?_)
  · obtain ⟨v, o, rfl, _⟩ := h
    rfl
  · obtain ⟨v, o, rfl, hv, k1, k2⟩ := h
    refine ⟨_, (pss_one (ps_if (pt_not (pt_val (pe_call (ok_is_name T) (hr.mono (by decide)) rfl T.m_is_name T.F_is_name.kp T.b_is_name .nil pass0 (pa_cons (pv 0) pa_nil)))) (pss_one (L2N.ps_raise rfl (L2N.takes_of rfl rfl rfl rfl) (pmkN_oex T.x_InvalidName T.i_InvalidName T.t_InvalidName (ok_InvalidName_init T) hr T.b_InvalidName_init pass0 rfl T.g_InvalidName (pa_cons (pv 0) pa_nil)))) pss_nil)), ?_⟩
    refine ⟨_, rfl, v, o, rfl, hv, fun H1 s1 => ⟨_, rfl, ?_⟩⟩
    cases e : nameO o with
    | true => exact iteF (k1 e H1 s1)
    | false => exact iteT ⟨_, rfl, raise_x T.x_InvalidName T.n_InvalidName ((k2 e).back s1)⟩
theorem ok_require_spans (T : Txt K mg base) : FnOk P w K mg base (L2N.CX P w) 5 T.f_require_spans T.fd_require_spans ["spans"] (sp_rspans K (C5 T)) := by
  refine okXN T.F_require_spans sc_require_spans (fun vs H Q E h => ?_) (fun cdv A outer s H vs Q E hr h => ?_)
  · obtain ⟨v, o, rfl, _⟩ := h
    rfl
  · obtain ⟨v, o, rfl, hin, k1, k2⟩ := h
    refine ⟨_, (pss_cons (ps_if (pt_not (pt_val (pe_callB (id := "isinstance") call_isi (by rfl) T.z_isinstance (by decide +kernel) (pa_cons (pv 0) (pa_cons (pe_bltn (v := .ty "dict") (u := .type "dict") (by rfl) T.z_dict (by decide +kernel) rfl) pa_nil))))) (pss_one (L2N.ps_raise rfl (L2N.takes_of rfl rfl rfl rfl) (pmkN_oex T.x_InvalidSpans T.i_InvalidSpans T.t_InvalidSpans (ok_InvalidSpans_init T) (hr.mono (by decide)) T.b_InvalidSpans_init pass0 rfl T.g_InvalidSpans (pa_cons (pv 0) pa_nil)))) pss_nil)
        (pss_cons (ps_lock (ps_for (passes_of rfl) rfl (pi_keys (pv 0)) (pg_name (i := 1) sc_require_spans.nd rfl (Or.inl rfl))
          (pss_one (ps_expr (pe_call (ok_require_name T) (hr.mono (by decide)) rfl T.m_require_name T.F_require_name.kp T.b_require_name .nil (passCN (L2N.takes_of rfl rfl rfl rfl)) (pa_cons (pv 1) pa_nil))))))
        (pss_one (ps_for (passes_of rfl) rfl (pi_list (pe_callB (id := "sorted") (call_sortedD rfl) (by rfl) T.z_sorted (by decide +kernel) (pa_cons (pv 0) pa_nil))) (pg_name (i := 1) sc_require_spans.nd rfl (Or.inl rfl))
          (pss_one (ps_expr (pe_call (ok_require_span T) hr rfl T.m_require_span T.F_require_span.kp T.b_require_span .nil (passCN (L2N.takes_of rfl rfl rfl rfl)) (pa_cons (pe_dget (hu_of hr) (pv 0) (pv 1) (fun _ _ => rfl)) pa_nil)))))))), ?_⟩
    cases hin with
    | no hv e => exact ⟨_, rfl, _, _, _, _, _, rfl, .ty _, hv.ty, kit_d _, _, rfl, by rw [e]; exact iteT ⟨_, rfl, raise_x T.x_InvalidSpans T.n_InvalidSpans (k2 _ rfl).rz⟩⟩
    | @dict d es hd hev hnd hlen =>
    refine ⟨_, rfl, _, _, _, _, _, rfl, .ty _, (VD.dic hd).ty, kit_d _, _, rfl, iteF ?_⟩
    have look : ∀ {i : Nat} {k : Key} {v : V}, (es.map kvE)[i]? = some (k, v) → ∃ e, es[i]? = some e ∧ e.1 = k := fun {i k v} h => by
      rw [List.getElem?_map] at h
      obtain ⟨e, h1, h2⟩ := Option.map_eq_some_iff.mp h
      exact ⟨e, h1, congrArg Prod.fst h2⟩
    refine ⟨d, _, hd, trivial, fun od => ⟨_, rfl, d, od, rfl, .inl ⟨es.map kvE, upd_same, for_it walk_keys (fun i σ H' => ∃ v1, σ = [some (.ref d), v1] ∧ Same (upd H d (.frz od (.dK (es.map kvE)))) H' ∧ ∀ j, j < i → ∀ e, es[j]? = some e → nameO (some (kD e.1)) = true)
      ⟨none, rfl, Same.refl _, fun j hj => by omega⟩ (fun i σ H' _ ⟨_, _, s1, _⟩ => s1 _ _ upd_same) ?_ ?_⟩⟩⟩
    · rintro i x σ H1 H2 hi ⟨v1, rfl, s1, hg⟩ ⟨rfl, k, v, hk, rfl⟩
      obtain ⟨e, he, rfl⟩ := look hk
      have hm := List.mem_of_getElem? he
      refine ⟨_, rfl, kV e.1, some (kD e.1), rfl, vd_key (hev e hm).2, fun e1 H3 s3 => ⟨_, rfl, s1.trans s3, fun j hj e' he' => ?_⟩, fun e1 => ?_⟩
      · by_cases h : j = i
        · rw [h, he] at he'
          cases he'
          exact e1
        · exact hg j (by omega) e' he'
      · have hb : badKey es = some e := find_at he (by rw [e1]; rfl) fun j hj y hy => by rw [hg j hj y hy]; rfl
        have hr : rsQ (.ref d) (some (d, es)) = some (1, kV e.1) := by
          show rsF es = _
          unfold rsF
          rw [hb]
        refine ((k2 _ hr).back (fun b o hb e => s1 _ _ ?_) fun b hb => ?_).rz
        · rw [upd_ne fun z => hb (by rw [z]; exact List.mem_cons_self)]
          exact e
        · have h := s1.free hb
          by_cases z : b = d
          · rw [z, upd_same] at h
            cases h
          · rw [upd_ne z] at h
            exact h
    · rintro σ H1 ⟨v1, rfl, s1, hg⟩
      refine ⟨s1 _ _ upd_same, ?_⟩
      have sB : Same H (upd H1 d (.dK (es.map kvE))) := fun b o e => by
        by_cases z : b = d
        · rw [z] at e ⊢
          rw [upd_same, ← hd]
          exact e
        · rw [upd_ne z]
          exact s1 _ _ (by rw [upd_ne z]; exact e)
      have hdB : (upd H1 d (.dK (es.map kvE))) d = some (.dK (es.map kvE)) := upd_same
      generalize upd H1 d (.dK (es.map kvE)) = H2 at sB hdB
      have hall : ∀ e ∈ es, nameO (some (kD e.1)) = true := fun e he => by
        obtain ⟨j, hj, rfl⟩ := List.mem_iff_getElem.mp he
        exact hg j (by rw [List.length_map]; exact hj) _ (List.getElem?_eq_getElem hj)
      have hk0 : badKey es = none := List.find?_eq_none.mpr fun e he => by rw [hall e he]; exact Bool.false_ne_true
      have hks : (es.map kvE).map (·.1) = (nmsE es).map Sum.inr := by
        unfold nmsE
        rw [List.map_map, List.map_map]
        refine List.map_congr_left fun e he => ?_
        have := hall e he
        obtain ⟨k, v, dd⟩ := e
        cases k with
        | inl i => cases this
        | inr s => rfl
      refine ⟨_, rfl, d, _, nmsE es, rfl, .of hdB, hks, (by unfold nmsE; rw [List.length_map]; omega), fun ys p hp hs hfr => ?_⟩
      obtain rfl := srt_eq hp hs
      have s2 := same_new (o := .lst ((srtS (nmsE es)).map V.str)) hfr
      refine ⟨p, rfl, ⟨_, SqL.of upd_same⟩, for_list (K := K) (a := p) (xs := (srtS (nmsE es)).map V.str) (fun i σ H' => ∃ v1, σ = [some (.ref d), v1] ∧ Same (upd H2 p (.lst ((srtS (nmsE es)).map V.str))) H' ∧ ∀ j, j < i → ∀ y, (srtS (nmsE es))[j]? = some y → spanO ((lookE es (.inr y)).map (·.2.2)) = true)
        ⟨_, rfl, Same.refl _, fun j hj => by omega⟩ (fun i σ H' _ ⟨_, _, s3, _⟩ => SqL.of (s3 _ _ upd_same)) ?_ ?_⟩
      · rintro i x σ H3 hx ⟨v1, rfl, s3, hg2⟩
        rw [List.getElem?_map] at hx
        obtain ⟨y, hy, rfl⟩ := Option.map_eq_some_iff.mp hx
        have hym : y ∈ nmsE es := srt_mem.mp (List.mem_of_getElem? hy)
        obtain ⟨e, hle⟩ : ∃ e, lookE es (.inr y) = some e := lookE_some (by
          have : Sum.inr y ∈ (nmsE es).map (Sum.inr (α := Int)) := List.mem_map.mpr ⟨y, hym, rfl⟩
          rw [← hks, List.map_map] at this
          exact this)
        obtain ⟨hem, hek⟩ := lookE_mem hle
        have s03 := sB.trans (s2.trans s3)
        have hd3 : H3 d = some (.dK (es.map kvE)) := s3 _ _ (s2 _ _ hdB)
        refine ⟨_, rfl, _, rfl, d, e.2.1, rfl, .inl ⟨es.map kvE, .inr y, .of hd3, rfl, ?_⟩, e.2.1, some e.2.2, rfl, (hev.mono s03 e hem).1, fun e1 H4 s4 => ⟨_, rfl, s3.trans s4, fun j hj y' hy' => ?_⟩, fun e1 => ?_⟩
        · rw [valE, hle]
          rfl
        · by_cases h : j = i
          · rw [h, hy] at hy'
            cases hy'
            rw [hle]
            exact e1
          · exact hg2 j (by omega) y' hy'
        · have hb : badSpan es = some y := find_at hy (by rw [hle]; show (!spanO (some e.2.2)) = true; rw [e1]; rfl) fun j hj y' hy' => by rw [hg2 j hj y' hy']; rfl
          have hr : rsQ (.ref d) (some (d, es)) = some (2, e.2.1) := by
            show rsF es = _
            unfold rsF
            rw [hk0, hb]
            show some (2, valAt es y) = _
            unfold valAt
            rw [hle]
            rfl
          exact ((k2 _ hr).same s03).rz
      · rintro σ H3 ⟨v1, rfl, s3, hg2⟩
        refine k1 ?_ _ (sB.trans (s2.trans s3))
        show rsF es = none
        have hb : badSpan es = none := find_no fun j hj y hy => by rw [hg2 j (by rw [List.length_map]; exact hj) y hy]; rfl
        unfold rsF
        rw [hk0, hb]
theorem ok_first_meeting (T : Txt K mg base) : FnOk P w K mg base (L2N.CX P w) 7 T.f_first_meeting T.fd_first_meeting ["spans", "span"] (sp_fmeet K) := by
  refine okXN T.F_first_meeting sc_first_meeting (fun vs H Q E h => ?_) (fun cdv A outer s H vs Q E hr h => ?_)
  · obtain ⟨d, a, rs, s, rfl, _⟩ := h
    rfl
  · obtain ⟨d, a, rs, sp, rfl, hd, hrs, hnd, ha, hok, k⟩ := h
    refine ⟨_, (pss_cons (ps_lock (ps_for (passes_of rfl) rfl (pi_keys (pv 0)) (pg_name (i := 2) sc_first_meeting.nd rfl (Or.inl rfl))
          (pss_one (ps_if (pt_val (pe_call (ok_meet T) hr rfl T.m_meet T.F_meet.kp T.b_meet .nil (passCN (L2N.takes_of rfl rfl rfl rfl)) (pa_cons (pe_dget (hu_of hr) (pv 0) (pv 2) (fun _ _ => rfl)) (pa_cons (pv 1) pa_nil)))) (pss_one (ps_ret (pv 2))) pss_nil))))
        (pss_one (ps_ret pe_non))), ?_⟩
    refine ⟨d, _, hd, trivial, fun od => ⟨_, rfl, d, od, rfl, .inl ⟨rs.map rKV, upd_same, for_it walk_keys (fun i σ H' => ∃ v1, σ = [some (.ref d), some (.ref a), v1] ∧ Same (upd H d (.frz od (.dK (rs.map rKV)))) H' ∧ ∀ j, j < i → ∀ r, rs[j]? = some r → meetB r.2.2 sp = false)
      ⟨none, rfl, Same.refl _, fun j hj => by omega⟩ (fun i σ H' _ ⟨_, _, s1, _⟩ => s1 _ _ upd_same) ?_ ?_⟩⟩⟩
    · rintro i x σ H1 H2 hi ⟨v1, rfl, s1, hg⟩ ⟨rfl, k0, v0, hk, rfl⟩
      rw [List.getElem?_map] at hk
      obtain ⟨r, hr1, e1⟩ := Option.map_eq_some_iff.mp hk
      have e1 : (Sum.inr r.1, V.ref r.2.1) = (k0, v0) := e1
      injection e1 with e1 e2
      subst e1 e2
      have hm := List.mem_of_getElem? hr1
      have nd : ND H H2 := (ND.lock hd).trans (.of s1)
      obtain ⟨r1, r2, r3⟩ := hrs r hm
      have hval : valV (rs.map rKV) (.inr r.1) = some (.ref r.2.1) := by
        rw [valR (List.mem_map.mpr ⟨r, hm, rfl⟩), rowOf_self hnd r hm]
      refine ⟨_, rfl, _, rfl, d, .ref r.2.1, rfl, .inl ⟨rs.map rKV, .inr r.1, .inr ⟨od, s1 _ _ upd_same⟩, rfl, hval.symm⟩, _, rfl, .ref r.2.1, .ref a, _, _, rfl, vd_sp (nd.tup r1), vd_sp (nd.tup ha), (fun e => ?_), (fun _ e => ?_), fun s1' t1' e1 o1 e2 o2 H3 s3 => ⟨_, rfl, ?_⟩⟩
      · rw [spanO_ok, r2] at e
        cases e
      · rw [spanO_ok, hok] at e
        cases e
      · obtain rfl : r.2.2 = s1' := spD_inj (Option.some.inj e1)
        obtain rfl : sp = t1' := spD_inj (Option.some.inj e2)
        have sA := s1.trans s3
        cases em : okS (comS r.2.2 sp) with
        | true =>
          refine iteT ⟨_, rfl, sA _ _ upd_same, ?_⟩
          have := k _ (unlock hd sA)
          rw [find_at hr1 em fun j hj y hy => hg j hj y hy] at this
          exact this
        | false =>
          refine iteF ⟨_, rfl, sA, fun j hj r' hr' => ?_⟩
          by_cases h : j = i
          · rw [h, hr1] at hr'
            cases hr'
            exact em
          · exact hg j (by omega) r' hr'
    · rintro σ H1 ⟨v1, rfl, s1, hg⟩
      refine ⟨s1 _ _ upd_same, ?_⟩
      have := k _ (unlock hd s1)
      rw [find_no fun j hj y hy => hg j (by rw [List.length_map]; exact hj) y hy] at this
      exact this
theorem ok_ordered_spans (T : Txt K mg base) : FnOk P w K mg base (L2N.CX P w) 8 T.f_ordered_spans T.fd_ordered_spans ["spans"] (sp_ordered K T.C_Overlap) := by
  refine okXN T.F_ordered_spans sc_ordered_spans (fun vs H Q E h => ?_) (fun cdv A outer s H vs Q E hr h => ?_)
  · obtain ⟨d, rs, rfl, _⟩ := h
    rfl
  · obtain ⟨d, rs, rfl, hd, hrs, hnd, hlen, k1, k2⟩ := h
    refine ⟨_, (pss_cons (ps_set (i := 1) sc_ordered_spans.nd rfl (Or.inl rfl) pe_dnewK)
        (pss_cons (ps_for (passes_of rfl) rfl (pi_list (pe_callB (id := "sorted") (call_sortedD rfl) (by rfl) T.z_sorted (by decide +kernel) (pa_cons (pv 0) pa_nil))) (pg_name (i := 2) sc_ordered_spans.nd rfl (Or.inl rfl))
          (pss_cons (ps_if (pt_cmpR op_notN (pe_call (ok_first_meeting T) hr rfl T.m_first_meeting T.F_first_meeting.kp T.b_first_meeting .nil (passCN (L2N.takes_of rfl rfl rfl rfl)) (pa_cons (pv 1) (pa_cons (pe_dget (hu_of hr) (pv 0) (pv 2) (fun _ _ => rfl)) pa_nil))) pe_non (nomark _)) (pss_one (L2N.ps_raise rfl (L2N.takes_of rfl rfl rfl rfl) (pmkN_oex T.x_Overlap T.i_Overlap T.t_Overlap (ok_Overlap_init T) (hr.mono (by decide)) T.b_Overlap_init pass0 rfl T.g_Overlap (pa_cons (pv 2) pa_nil)))) pss_nil)
        (pss_one (ps_dput (hu_of hr) (pv 1) (pv 2) (pe_dget (hu_of hr) (pv 0) (pv 2) (fun _ _ => rfl)) rfl))))
        (pss_one (ps_ret (pv 1))))), ?_⟩
    intro p hp
    have s0 := same_new (o := .dK []) hp
    have hks : (rs.map rKV).map (·.1) = (rs.map (·.1)).map Sum.inr := by
      rw [List.map_map, List.map_map]
      rfl
    refine ⟨_, rfl, d, _, rs.map (·.1), rfl, .of (s0 _ _ hd), hks, (by rw [List.length_map]; omega), fun ys q hperm hs hq => ?_⟩
    obtain rfl := srt_eq hperm hs
    have hpH : H p = none := hp
    have npd : d ≠ p := ne_of_none hd hp
    have nqp : q ≠ p := fun z => by
      rw [z, upd_same] at hq
      cases hq
    have s1 := same_new (o := .lst ((srtS (rs.map (·.1))).map V.str)) hq
    refine ⟨q, rfl, ⟨_, SqL.of upd_same⟩, for_list (K := K) (a := q) (xs := (srtS (rs.map (·.1))).map V.str) (fun i σ H' => ∃ v1, σ = [some (.ref d), some (.ref p), v1] ∧ SX [p] (upd (upd H p (.dK [])) q (.lst ((srtS (rs.map (·.1))).map V.str))) H' ∧ H' p = some (.dK (((sortR rs).take i).map rKV)) ∧ ovl rs = ovlR ((sortR rs).take i) ((sortR rs).drop i))
      ⟨none, rfl, .of (Same.refl _), (by rw [upd_ne nqp.symm, upd_same]; rfl), rfl⟩ (fun i σ H' _ ⟨_, _, s2, _⟩ => SqL.of (s2 _ _ (by simpa using nqp) upd_same)) ?_ ?_⟩
    · rintro i x σ H3 hx ⟨v1, rfl, s2, hp3, hov⟩
      rw [List.getElem?_map] at hx
      obtain ⟨y, hy, rfl⟩ := Option.map_eq_some_iff.mp hx
      have hym : y ∈ rs.map (·.1) := srt_mem.mp (List.mem_of_getElem? hy)
      obtain ⟨hrm, hrn⟩ := rowOf_mem hym
      have hrow := sortR_at hy
      have hval := valR hym
      have hd0 : (upd (upd H p (.dK [])) q (.lst ((srtS (rs.map (·.1))).map V.str))) d = some (.dK (rs.map rKV)) := s1 _ _ (s0 _ _ hd)
      have hd3 : H3 d = some (.dK (rs.map rKV)) := s2 _ _ (by simpa using npd) hd0
      have nd3 : ND H H3 := ((ND.of s0).trans (.of s1)).trans (.sx s2 fun x hx o e => by
        obtain rfl := List.mem_singleton.mp hx
        rw [upd_ne nqp.symm, upd_same] at e
        cases e
        rfl)
      have hg : ∀ r ∈ (sortR rs).take i, r ∈ rs := fun r hr => sortR_mem (List.mem_of_mem_take hr)
      have hrs3 := hrs.nd nd3
      obtain ⟨r1, r2, r3⟩ := hrs3 _ hrm
      have hnt : (((sortR rs).take i).map (·.1)).Nodup := by
        rw [List.map_take, sortR_names]
        exact (srt_nodup hnd).sublist (List.take_sublist _ _)
      have hdrop : (sortR rs).drop i = rowOf rs y :: (sortR rs).drop (i + 1) := by
        have hi := (List.getElem?_eq_some_iff.mp hrow).1
        rw [List.drop_eq_getElem_cons hi]
        congr 1
        exact (List.getElem?_eq_some_iff.mp hrow).2
      rw [hdrop, ovlR_step] at hov
      refine ⟨_, rfl, _, rfl, _, rfl, d, .ref (rowOf rs y).2.1, rfl, .inl ⟨rs.map rKV, .inr y, .of hd3, rfl, hval.symm⟩, p, (rowOf rs y).2.1, (sortR rs).take i, (rowOf rs y).2.2, rfl, hp3, (fun r hr => hrs3 r (hg r hr)), hnt, r1, r2, fun H4 s4 => ⟨rfl, _, rfl, ?_⟩⟩
      have hd4 := s4 _ _ hd3
      have hp4 := s4 _ _ hp3
      cases hf : ((sortR rs).take i).find? fun r => meetB r.2.2 (rowOf rs y).2.2 with
      | some r0 =>
        have ha : (((sortR rs).take i).any fun q => meetB q.2.2 (rowOf rs y).2.2) = true := by
          have h1 := List.mem_of_find?_eq_some hf
          have h2 := List.find?_some hf
          exact List.any_eq_true.mpr ⟨r0, h1, h2⟩
        rw [ha, if_pos rfl, hrn] at hov
        refine iteT ⟨_, rfl, raise_x T.x_Overlap T.n_Overlap fun dx Hx nx hx sx => k2 y hov dx Hx ?_ hx fun b o e => ?_⟩
        · have h := s4.free nx
          cases hb : H dx with
          | none => rfl
          | some u =>
            by_cases z : dx = p
            · rw [z, hp3] at h
              cases h
            · have := s2 dx u (by simpa using z) (s1 _ _ (s0 _ _ hb))
              rw [h] at this
              cases this
        · exact sx _ _ (s4 _ _ (s2 b o (by simpa using ne_of_none e hpH) (s1 _ _ (s0 _ _ e))))
      | none =>
        have ha : (((sortR rs).take i).any fun q => meetB q.2.2 (rowOf rs y).2.2) = false := by
          rw [List.any_eq_false]
          intro z hz
          have := List.find?_eq_none.mp hf z hz
          exact this
        rw [ha, if_neg Bool.false_ne_true] at hov
        have hnew : valV (((sortR rs).take i).map rKV) (.inr y) = none := valR_none fun hm => by
          rw [List.map_take, sortR_names] at hm
          obtain ⟨j, hj, e⟩ := List.mem_iff_getElem.mp hm
          rw [List.length_take] at hj
          rw [List.getElem_take] at e
          obtain ⟨hi, e2⟩ := List.getElem?_eq_some_iff.mp hy
          exact (List.pairwise_iff_getElem.mp (srt_nodup hnd)) j i (by omega) hi (by omega) (e.trans e2.symm)
        refine iteF ⟨_, rfl, _, rfl, d, .ref (rowOf rs y).2.1, rfl, .inl ⟨rs.map rKV, .inr y, .of hd4, rfl, hval.symm⟩, _, rfl, _, rfl, p, _, rfl, DPut.k (k := .inr y) hp4 ?_, _, rfl, fun b o nb e => ?_, ?_, ?_⟩
        · rw [List.length_map, List.length_take]
          exact Nat.lt_of_le_of_lt (Nat.min_le_right _ _) (by rw [sortR_len]; exact Nat.lt_of_le_of_lt hlen (by decide))
        · rw [upd_ne (by simpa using nb)]
          exact s4 _ _ (s2 b o nb e)
        · rw [upd_same, putK_new _ hnew, List.take_add_one, hrow, Option.toList_some, List.map_append]
          show _ = some (HO.dK (_ ++ [rKV (rowOf rs y)]))
          unfold rKV
          rw [hrn]
        · rw [hov, List.take_add_one, hrow, Option.toList_some]
    · rintro σ H3 ⟨v1, rfl, s2, hp3, hov⟩
      have hl : (sortR rs).length = ((srtS (rs.map (·.1))).map V.str).length := by rw [sortR_len, List.length_map, srt_len, List.length_map]
      rw [← hl, List.take_length] at hp3
      rw [← hl, List.take_length, List.drop_length] at hov
      exact ⟨_, rfl, k1 hov p H3 (fun b o e => s2 b o (by simpa using ne_of_none e hpH) (s1 _ _ (s0 _ _ e))) hpH hp3⟩
theorem ok_require_rest (T : Txt K mg base) : FnOk P w K mg base (L2N.CX P w) 4 T.f_require_rest T.fd_require_rest ["rest", "spans"] (sp_rrest K (C5 T)) := by
  refine okXN T.F_require_rest sc_require_rest (fun vs H Q E h => ?_) (fun cdv A outer s H vs Q E hr h => ?_)
  · obtain ⟨rv, ro, d, rs, rfl, _⟩ := h
    rfl
  · obtain ⟨rv, ro, d, rs, rfl, hv, hd, k1, k2⟩ := h
    refine ⟨_, (pss_cons (ps_if (pt_cmpR op_isN (pv 0) pe_non (nomark _)) (pss_one ps_retN) pss_nil)
        (pss_cons (ps_expr (pe_call (ok_require_name T) hr rfl T.m_require_name T.F_require_name.kp T.b_require_name .nil (passCN (L2N.takes_of rfl rfl rfl rfl)) (pa_cons (pv 0) pa_nil)))
        (pss_one (ps_if (pt_cmp (pc_din (hu_of hr) (pv 0) (pv 1))) (pss_one (L2N.ps_raise rfl (L2N.takes_of rfl rfl rfl rfl) (pmkN_oex T.x_NameTaken T.i_NameTaken T.t_NameTaken (ok_NameTaken_init T) (hr.mono (by decide)) T.b_NameTaken_init pass0 rfl T.g_NameTaken (pa_cons (pv 0) pa_nil)))) pss_nil)))), ?_⟩
    refine ⟨_, rfl, rfl, _, rfl, ?_⟩
    rw [vd_non hv]
    unfold restX at k1 k2
    cases e0 : nonO ro with
    | true =>
      rw [e0] at k1
      exact iteT (k1 (if_pos rfl) H (Same.refl H))
    | false =>
      rw [e0, if_neg Bool.false_ne_true] at k1 k2
      refine iteF ⟨_, rfl, rv, ro, rfl, hv, fun e1 H1 s1 => ?_, fun e1 => (k2 _ (if_pos e1)).rz⟩
      rw [e1, if_neg (by decide)] at k1 k2
      obtain ⟨s, rfl⟩ := nameO_s e1
      cases hv with
      | dat a b c =>
      cases a
      refine ⟨_, rfl, _, rfl, d, _, rfl, DGet.k (k := .inr s) (s1 _ _ hd), _, rfl, ?_⟩
      by_cases hin : s ∈ rs.map (·.1)
      · have hi : inNames (rs.map (·.1)) (some (.str s)) = true := decide_eq_true hin
        rw [if_pos hi] at k2
        rw [valR hin]
        exact iteT ⟨_, rfl, raise_x T.x_NameTaken T.n_NameTaken ((k2 _ rfl).same s1).rz⟩
      · have hi : inNames (rs.map (·.1)) (some (.str s)) = false := decide_eq_false hin
        rw [hi, if_neg Bool.false_ne_true] at k1
        rw [valR_none hin]
        exact iteF (k1 rfl _ s1)
theorem ok_low_place (T : Txt K mg base) : FnOk P w K mg base CX0 1 T.f_low_place T.fd_low_place ["span"] (sp_lowp K) := by
  refine T.F_low_place.ok sc_low_place (fun vs H Q E h => ?_) (fun cdv A outer s H vs Q E hr h => ?_)
  · obtain ⟨a, sp, rfl, _⟩ := h
    rfl
  · obtain ⟨a, sp, rfl, ha, k⟩ := h
    refine ⟨_, (pss_cons (ps_set (i := 1) sc_low_place.nd rfl (Or.inl rfl) (pe_ix ix_tup (pv 0) pe_int (fun _ _ => rfl)))
        (pss_one (ps_ret (pe_ifExp (pt_cmpR op_isN (pv 1) pe_non (nomark _)) (pe_tup (pa_cons pe_int (pa_cons pe_int pa_nil))) (pe_tup (pa_cons pe_int (pa_cons (pv 1) pa_nil))))))), ?_⟩
    refine ⟨_, rfl, a, _, 0, limV sp.1, rfl, rfl, ha, atI_nat (j := 0) rfl, _, rfl, rfl, _, rfl, ?_⟩
    obtain ⟨l, u⟩ := sp
    cases l with
    | none => exact iteT ⟨(by show 2 ≤ sizeLine; decide), fun p hp => k p _ (same_new hp) hp upd_same⟩
    | some i => exact iteF ⟨_, rfl, (by show 2 ≤ sizeLine; decide), fun p hp => k p _ (same_new hp) hp upd_same⟩
theorem ok_all_stretches (T : Txt K mg base) : FnOk P w K mg base CX0 5 T.f_all_stretches T.fd_all_stretches ["spans", "rest"] (sp_allst K T.pt_all_stretches) := by
  refine T.FC_all_stretches.ok sc_all_stretches (fun vs H Q E h => ?_) (fun A outer s H vs Q E hr h => ?_)
  · obtain ⟨d, rv, rs, rfl, _⟩ := h
    rfl
  · obtain ⟨d, rv, rs, rfl, hd, hrs, hnd, hlen, hT, k⟩ := h
    refine ⟨_, (pss_cons (ps_set (i := 2) sc_all_stretches.nd rfl (Or.inl rfl) (pe_lst pa_nil))
        (pss_cons (ps_set (i := 3) sc_all_stretches.nd rfl (Or.inl rfl) pe_non)
        (pss_cons (ps_for PassesOwn.never rfl (pi_list (pe_sortLam (k := 1) (N := ["part", "spans"]) (fr := ["spans"]) (js := [0]) (y := "part") hr rfl (by rfl) T.z_sorted T.tb_all_stretches rfl rfl (NdefX.nscope_by (by decide +kernel)) (by kernel_rfl) rfl (fun _ _ _ _ _ _ => rfl) (pa_cons (pv 0) pa_nil) (fun A outer s H f c' q cl hr2 => by exact (pe_call (ok_low_place T) (hr2.mono (by decide)) rfl T.m_low_place T.F_low_place.kp T.b_low_place .nil pass0 (pa_cons (pe_dget (hu_of hr2) (pv 1) (pv 0) (fun _ _ => rfl)) pa_nil))))) (pg_name (i := 4) sc_all_stretches.nd rfl (Or.inl rfl))
          (pss_cons (ps_asg (pe_dget (hu_of hr) (pv 0) (pv 4) (fun _ _ => rfl)) (pg_tup rfl (pgs_cons (pg_name (i := 5) sc_all_stretches.nd rfl (Or.inl rfl)) (pgs_cons (pg_name (i := 6) sc_all_stretches.nd rfl (Or.inl rfl)) pgs_nil))))
        (C8.pss_cut (ps_if (pt_cmpR op_ne (pv 5) (pv 3) (nomark _)) (pss_one (ps_expr (pe_bm PySem.F.plainAttrs_list PySem.F.slot_list_append PySem.F.type_list_append mt_append (pv 2) (pa_cons (pe_tup (pa_cons (pv 3) (pa_cons (pv 5) (pa_cons (pv 1) pa_nil)))) pa_nil)))) pss_nil)
        (pss_cons (ps_expr (pe_bm PySem.F.plainAttrs_list PySem.F.slot_list_append PySem.F.type_list_append mt_append (pv 2) (pa_cons (pe_tup (pa_cons (pv 5) (pa_cons (pv 6) (pa_cons (pv 4) pa_nil)))) pa_nil)))
        (pss_one (ps_set (i := 3) sc_all_stretches.nd rfl (Or.inl rfl) (pv 6)))))))
        (C8.pss_cut (ps_if (PW.pt (pw_or (pt_not (pt_truth (pv 2) (by intro _; rfl))) (pw_or1 (pt_cmpR op_notN (pv 3) pe_non (nomark _))))) (pss_one (ps_expr (pe_bm PySem.F.plainAttrs_list PySem.F.slot_list_append PySem.F.type_list_append mt_append (pv 2) (pa_cons (pe_tup (pa_cons (pv 3) (pa_cons pe_non (pa_cons (pv 1) pa_nil)))) pa_nil)))) pss_nil)
        (pss_one (ps_ret (pv 2))))))), ?_⟩
    refine ⟨Nat.zero_le _, fun p hp => ?_⟩
    have s0 := same_new (o := .lst []) hp
    have hks : (rs.map rKV).map (·.1) = (rs.map (·.1)).map Sum.inr := by
      rw [List.map_map, List.map_map]
      rfl
    refine ⟨_, rfl, d, _, rs.map (·.1), fun y => lowD (rowOf rs y).2.2, rfl, hT.ext s0, .of (s0 _ _ hd), hks, (by rw [List.length_map]; omega), low_alike _, low_sortable _, (fun y _ => low_depth _), fun y hy H2 eN => ?_, fun q H2 eN hT2 hq => ?_⟩
    · obtain ⟨r1, r2, r3⟩ := hrs _ (rowOf_mem hy).1
      have nd2 : ND H H2 := (ND.of s0).trans fun b o e z => eN b o e fun ps w => by
        rw [w] at z
        cases z
      have hd2 : H2 d = some (.dK (rs.map rKV)) := eN _ _ (s0 _ _ hd) fun ps w => by cases w
      refine ⟨_, rfl, _, rfl, d, .ref (rowOf rs y).2.1, rfl, .inl ⟨rs.map rKV, .inr y, .of hd2, rfl, (valR hy).symm⟩, (rowOf rs y).2.1, (rowOf rs y).2.2, rfl, nd2.tup r1, fun p3 H3 s3 n3 h3 => ⟨s3, low_dp h3⟩⟩
    · have hp2 : H2 p = some (.lst []) := eN _ _ upd_same fun ps z => by cases z
      have nqp : p ≠ q := ne_of_none hp2 hq
      have eH : LamX.ExtN H H2 := (LamX.ExtN.of s0).trans eN
      have hd2 : H2 d = some (.dK (rs.map rKV)) := eH _ _ hd fun ps z => by cases z
      have s2 := same_new (o := .lst (((rs.map (·.1)).mergeSort (PySem.W.dataLe false fun y => lowD (rowOf rs y).2.2)).map V.str)) hq
      have hmem : ∀ y, y ∈ (rs.map (·.1)).mergeSort (PySem.W.dataLe false fun y => lowD (rowOf rs y).2.2) → y ∈ rs.map (·.1) := fun y hy => (List.mergeSort_perm _ _).mem_iff.mp hy
      have hql : (upd H2 q (.lst (((rs.map (·.1)).mergeSort (PySem.W.dataLe false fun y => lowD (rowOf rs y).2.2)).map V.str))) q = some (.lst (((rs.map (·.1)).mergeSort (PySem.W.dataLe false fun y => lowD (rowOf rs y).2.2)).map V.str)) := upd_same
      have hys : (rs.map (·.1)).mergeSort (PySem.W.dataLe false fun y => lowD (rowOf rs y).2.2) = lowsS rs := rfl
      have hyl : ((rs.map (·.1)).mergeSort (PySem.W.dataLe false fun y => lowD (rowOf rs y).2.2)).length = rs.length := by rw [List.length_mergeSort, List.length_map]
      have hT3 := hT2.ext s2
      have hrs3 : RowsOk K (upd H2 q (.lst (((rs.map (·.1)).mergeSort (PySem.W.dataLe false fun y => lowD (rowOf rs y).2.2)).map V.str))) rs := hrs.nd fun b o e z => s2 _ _ (eH b o e fun ps w => by
        rw [w] at z
        cases z)
      have hd3 := s2 _ _ hd2
      have hp3 := s2 _ _ hp2
      have eH3 := eH.trans (LamX.ExtN.of s2)
      clear eN hT2 s2 hp2 hd2 hq
      generalize (rs.map (·.1)).mergeSort (PySem.W.dataLe false fun y => lowD (rowOf rs y).2.2) = ys at hmem hql hyl hT3 hrs3 hd3 hp3 eH3 hys
      generalize upd H2 q (.lst (ys.map V.str)) = H3 at hql hT3 hrs3 hd3 hp3 eH3
      have npd : d ≠ p := ne_of_none hd hp
      have ndp : ∀ {H4 : Hp}, SX [p] H3 H4 → ∀ {b : Addr} {o : HO}, H3 b = some o → b ≠ p → H4 b = some o := fun s b o e n => s b o (by simpa using n) e
      refine ⟨q, rfl, ⟨_, SqL.of hql⟩, for_list (K := K) (a := q) (xs := ys.map V.str) (fun i σ H' => ∃ e v4 v5 v6 xs, σ = [some (.ref d), some rv, some (.ref p), some (limV e), v4, v5, v6] ∧ SX [p] H3 H' ∧ H' p = some (.lst xs) ∧ StAt H' xs (strG rv none ((ys.take i).map (rowOf rs))) ∧ e = endG none ((ys.take i).map (rowOf rs)))
        ⟨none, none, none, none, [], rfl, .of (Same.refl _), hp3, .nil, rfl⟩ (fun i σ H' _ ⟨_, _, _, _, _, _, s, _⟩ => SqL.of (ndp s hql nqp.symm)) ?_ ?_⟩
      · rintro i x σ H4 hx ⟨e, v4, v5, v6, xs, rfl, s4, hp4, hst4, he4⟩
        rw [List.getElem?_map] at hx
        obtain ⟨y, hy, rfl⟩ := Option.map_eq_some_iff.mp hx
        have hym := hmem y (List.mem_of_getElem? hy)
        have hi : i < ys.length := (List.getElem?_eq_some_iff.mp hy).1
        have hl4 : xs.length ≤ 2 * i := by
          have h1 := strG_len rv ((ys.take i).map (rowOf rs)) none
          rw [← hst4.len, List.length_map, List.length_take] at h1
          omega
        have htk : (ys.take (i + 1)).map (rowOf rs) = (ys.take i).map (rowOf rs) ++ [rowOf rs y] := by
          rw [List.take_add_one, hy, List.map_append]
          rfl
        have hz : xs.length + 3 < sizeLine := Nat.lt_of_le_of_lt (show xs.length + 3 ≤ 200 by omega) (by decide)
        have h2 : 200 < sizeLine := by decide
        obtain ⟨r1, r2, r3⟩ := hrs3 _ (rowOf_mem hym).1
        have r4 := tup_sx s4 hp3 r1
        have hval := valR hym
        have hrn := (rowOf_mem hym).2
        generalize rowOf rs y = r at r1 r2 r3 r4 hval htk hrn
        obtain ⟨nm, ra, lo, hi'⟩ := r
        have hrn : y = nm := (show nm = y from hrn).symm
        subst hrn
        refine ⟨_, rfl, _, rfl, d, .ref ra, rfl, .inl ⟨rs.map rKV, .inr y, .of (ndp s4 hd3 npd), rfl, hval.symm⟩, ra, _, rfl, r4, rfl, _, _, rfl, _, _, rfl, rfl, ?_⟩
        have app : ∀ {H5 : Hp} {ys : List V} {t : Addr} {o : HO}, SX [p] H3 H5 → H5 p = some (.lst ys) → H5 t = none → SX [p] H3 (upd H5 t o) ∧ (upd H5 t o) p = some (.lst ys) := fun s h n => ⟨s.trans (.of (same_new n)), by rw [upd_ne (ne_of_none h n)]; exact h⟩
        refine ⟨fun σ H' => ∃ v6 xs, σ = [some (.ref d), some rv, some (.ref p), some (limV e), some (.str y), some (limV lo), v6] ∧ v6 = some (limV hi') ∧ SX [p] H3 H' ∧ H' p = some (.lst xs) ∧ xs.length ≤ 2 * i + 1 ∧ StAt H' xs (strG rv none ((ys.take i).map (rowOf rs)) ++ (if (!decide (limV lo = limV e)) = true then [(e, lo, rv)] else [])), ⟨_, rfl, _, rfl, limV_scal _ _, _, rfl, ?_⟩, ?_⟩
        · refine ite2 (fun hne => ?_) fun hne => ⟨_, _, rfl, rfl, s4, hp4, by omega, by rw [if_neg hne, List.append_nil]; exact hst4⟩
          refine ⟨_, rfl, .inl ⟨rfl, _, .inl (.inl hp4)⟩, _, rfl, _, rfl, _, rfl, (by show 3 ≤ sizeLine; decide), fun t ht => ?_⟩
          obtain ⟨s5, hp5⟩ := app (o := .tup [limV e, limV lo, rv]) s4 hp4 ht
          have hst5 := (hst4.mono (same_new (o := .tup [limV e, limV lo, rv]) ht)).snoc (t := t) (s := (e, lo, rv)) upd_same
          exact ⟨p, _, _, rfl, rfl, hp5, by omega, _, _, rfl, rfl, sx_upd s5, upd_same, by rw [List.length_append, List.length_singleton]; omega, by rw [if_pos hne]; exact hst5.sx hp5 (sx_upd (.of (Same.refl _)))⟩
        · rintro σ H5 ⟨v6, xs5, rfl, rfl, s5, hp5, hl5, hst5⟩
          refine ⟨_, rfl, .inl ⟨rfl, _, .inl (.inl hp5)⟩, _, rfl, _, rfl, _, rfl, (by show 3 ≤ sizeLine; decide), fun t ht => ?_⟩
          obtain ⟨s6, hp6⟩ := app (o := .tup [limV lo, limV hi', .str y]) s5 hp5 ht
          have hst6 := (hst5.mono (same_new (o := .tup [limV lo, limV hi', .str y]) ht)).snoc (t := t) (s := (lo, hi', .str y)) upd_same
          refine ⟨p, _, _, rfl, rfl, hp6, by omega, _, rfl, hi', _, _, _, _, rfl, sx_upd s6, upd_same, ?_, ?_⟩
          · rw [htk, strG_snoc, ← he4, ← List.append_assoc]
            exact hst6.sx hp6 (sx_upd (.of (Same.refl _)))
          · rw [htk, endG_snoc]
      · rintro σ H4 ⟨e, v4, v5, v6, xs, rfl, s4, hp4, hst4, he4⟩
        rw [List.length_map, List.take_length, hys] at hst4 he4
        have hst4 : StAt H4 xs (strG rv none (ordR rs)) := hst4
        have he4 : e = endG none (ordR rs) := he4
        have hlo : (ordR rs).length = rs.length := by
          unfold ordR
          rw [List.length_map, ← hys, hyl]
        have hem : xs.isEmpty = (strG rv none (ordR rs)).isEmpty := by
          rw [Bool.eq_iff_iff, List.isEmpty_iff_length_eq_zero, List.isEmpty_iff_length_eq_zero, hst4.len]
        have hz : xs.length + 3 < sizeLine := by
          have h1 := strG_len rv (ordR rs) none
          rw [← hst4.len, hlo] at h1
          exact Nat.lt_of_le_of_lt (show xs.length + 3 ≤ 200 by omega) (by decide)
        have fin : ∀ (H5 : Hp) (xs5 : List V), SX [p] H3 H5 → StL H5 p xs5 rs rv → Q (.ref p) H5 := fun H5 xs5 s5 hp5 => k p H5 xs5 (fun b o q n => s5 b o (by simpa using ne_of_none q hp) (eH3 b o q n)) (tabS_sx hT3 s5 fun x hx o q => by
          obtain rfl := List.mem_singleton.mp hx
          rw [hp3] at q
          cases q
          exact ⟨_, rfl⟩) hp hp5
        have app : ∀ {H5 : Hp} {ys : List V} {t : Addr} {o : HO}, SX [p] H3 H5 → H5 p = some (.lst ys) → H5 t = none → SX [p] H3 (upd H5 t o) ∧ (upd H5 t o) p = some (.lst ys) := fun s h n => ⟨s.trans (.of (same_new n)), by rw [upd_ne (ne_of_none h n)]; exact h⟩
        refine ⟨fun σ H' => ∃ xs, σ = [some (.ref d), some rv, some (.ref p), some (limV e), v4, v5, v6] ∧ SX [p] H3 H' ∧ H' p = some (.lst xs) ∧ StAt H' xs (strT rv (ordR rs)), ⟨_, rfl, !xs.isEmpty, .inl ⟨xs, SqL.of hp4, rfl⟩, ite2 (fun h1 => ?_) fun h1 => ⟨_, rfl, rfl, _, rfl, ite2 (fun h2 => ?_) fun h2 => ⟨_, rfl, s4, hp4, ?_⟩⟩⟩, ?_⟩
        · refine ⟨_, rfl, .inl ⟨rfl, _, .inl (.inl hp4)⟩, _, rfl, _, rfl, (by show 3 ≤ sizeLine; decide), fun t ht => ?_⟩
          obtain ⟨s5, hp5⟩ := app (o := .tup [limV e, .non, rv]) s4 hp4 ht
          have hst5 := (hst4.mono (same_new (o := .tup [limV e, .non, rv]) ht)).snoc (t := t) (s := (e, none, rv)) upd_same
          refine ⟨p, _, _, rfl, rfl, hp5, by omega, _, rfl, sx_upd s5, upd_same, ?_⟩
          have hT : strT rv (ordR rs) = strG rv none (ordR rs) ++ [(e, none, rv)] := by
            unfold strT
            rw [← hem, if_pos h1, he4]
          rw [hT]
          exact hst5.sx hp5 (sx_upd (.of (Same.refl _)))
        · refine ⟨_, rfl, .inl ⟨rfl, _, .inl (.inl hp4)⟩, _, rfl, _, rfl, (by show 3 ≤ sizeLine; decide), fun t ht => ?_⟩
          obtain ⟨s5, hp5⟩ := app (o := .tup [limV e, .non, rv]) s4 hp4 ht
          have hst5 := (hst4.mono (same_new (o := .tup [limV e, .non, rv]) ht)).snoc (t := t) (s := (e, none, rv)) upd_same
          refine ⟨p, _, _, rfl, rfl, hp5, by omega, _, rfl, sx_upd s5, upd_same, ?_⟩
          have hT : strT rv (ordR rs) = strG rv none (ordR rs) ++ [(e, none, rv)] := by
            unfold strT
            rw [← hem, if_neg h1, ← he4, if_pos h2]
          rw [hT]
          exact hst5.sx hp5 (sx_upd (.of (Same.refl _)))
        · have hT : strT rv (ordR rs) = strG rv none (ordR rs) := by
            unfold strT
            rw [← hem, if_neg h1, ← he4, if_neg h2]
          rw [hT]
          exact hst4
        · rintro σ H5 ⟨xs5, rfl, s5, hp5, hst5⟩
          exact ⟨_, rfl, fin _ _ s5 ⟨hp5, hst5⟩⟩
theorem ok_Catalog_init (T : Txt K mg base) : FnOk P w K mg base (L2N.CX P w) 9 T.f_Catalog_init T.fd_Catalog_init ["self", "spans", "rest"] (sp_cinit K T.C_Catalog (C5 T) T.pt_all_stretches) := by
  refine T.F_Catalog_init.ok sc_Catalog_init (fun vs H Q E h => ?_) (fun cdv A outer s H vs Q E hr h => ?_)
  · obtain ⟨x, dx, v, rv, rd, o, rfl, _⟩ := h
    rfl
  · obtain ⟨x, dx, v, rv, rd, o, rfl, hx, hin, hv, hT, k1, k2⟩ := h
    refine ⟨_, (C8.pss_cut (ps_set (i := 3) sc_Catalog_init.nd rfl (Or.inl rfl) (pe_ifExp (pt_cmpR op_isN (pv 1) pe_non (nomark _)) pe_dnewK (pv 1)))
        (pss_cons (ps_expr (pe_call (ok_require_spans T) (hr.mono (by decide)) rfl T.m_require_spans T.F_require_spans.kp T.b_require_spans .nil (passCN (L2N.takes_of rfl rfl rfl rfl)) (pa_cons (pv 3) pa_nil)))
        (pss_cons (ps_fld (pv 0) (pe_call (ok_ordered_spans T) hr rfl T.m_ordered_spans T.F_ordered_spans.kp T.b_ordered_spans .nil (passCN (L2N.takes_of rfl rfl rfl rfl)) (pa_cons (pv 3) pa_nil)) rfl)
        (pss_cons (ps_expr (pe_call (ok_require_rest T) (hr.mono (by decide)) rfl T.m_require_rest T.F_require_rest.kp T.b_require_rest .nil (passCN (L2N.takes_of rfl rfl rfl rfl)) (pa_cons (pv 2) (pa_cons (pe_fld (pv 0) rfl) pa_nil))))
        (pss_cons (ps_fld (pv 0) (pv 2) rfl)
        (C8.pss_cut (ps_set (i := 4) sc_Catalog_init.nd rfl (Or.inl rfl) (pe_ifExp (pt_cmpR op_isN (pv 2) pe_non (nomark _)) (pe_callTy (T := "list") (call_list_dK rfl) (by rfl) T.z_list (by decide +kernel) (pa_cons (pe_fld (pv 0) rfl) pa_nil)) (pe_lst (pa_starD rfl (pe_fld (pv 0) rfl) (pa_cons (pv 2) pa_nil)))))
        (pss_cons (ps_if (pt_cmpR op_gt (pe_callB (id := "len") call_len_seq (by rfl) T.z_len (by decide +kernel) (pa_cons (pv 4) pa_nil)) (pe_glob (v := .int 8) rfl T.c_MOST_PARTS ⟨_, rfl⟩) (nomark _)) (pss_one (L2N.ps_raise rfl (L2N.takes_of rfl rfl rfl rfl) (pmkN_oex T.x_TooMany T.i_TooMany T.t_TooMany (ok_TooMany_init T) (hr.mono (by decide)) T.b_TooMany_init pass0 rfl T.g_TooMany (pa_cons (pe_glob (v := .int 8) rfl T.c_MOST_PARTS ⟨_, rfl⟩) pa_nil)))) pss_nil)
        (pss_cons (ps_fld (pv 0) (pe_callB (id := "sorted") cr_sortedS (by rfl) T.z_sorted (by decide +kernel) (pa_cons (pv 4) pa_nil)) rfl)
        (pss_one (ps_fld (pv 0) (pe_call (ok_all_stretches T) (hr.mono (by decide)) rfl T.m_all_stretches T.F_all_stretches.kp T.b_all_stretches .nil pass0 (pa_cons (pe_fld (pv 0) rfl) (pa_cons (pv 2) pa_nil))) rfl)))))))))), ?_⟩
    refine ⟨fun σ H1 => ∃ (v' : V) (o' : Option (Addr × List Ent)), σ = [some (.ref x), some v, some rv, some v', none] ∧ Same H H1 ∧ SpIn K H1 v' o' ∧ (∀ q, rsQ v' o' = some q → ExC (x :: spX o') H1 E (C5 T) q) ∧
      (rsQ v' o' = none → ∃ d rs, v' = .ref d ∧ o' = some (d, rs.map rE) ∧ H1 d = some (.dK (rs.map rKV)) ∧ RowsOk K H1 rs ∧ (rs.map (·.1)).Nodup ∧ rs.length ≤ 60 ∧ (∀ q, catR rs rv (some rd) = some q → ExC [x] H1 E (C5 T) q) ∧
        (catR rs rv (some rd) = none → ∀ H', EX [x] H1 H' → LamX.TabS H' T.pt_all_stretches lamQ → CatNew K T.C_Catalog H1 H' x rs (rtO (some rd)) → rv = rvO (rtO (some rd)) → Q .non H')), ⟨_, rfl, rfl, _, rfl, ?_⟩, ?_⟩
    · cases hin with
      | non =>
        refine iteT fun d0 hd0 => ?_
        have s0 := same_new (o := .dK []) hd0
        refine ⟨.ref d0, some (d0, []), rfl, s0, .dict (es := []) upd_same (fun e he => (List.not_mem_nil he).elim) List.nodup_nil (Nat.zero_le _), fun q e => ?_, fun _ => ⟨d0, [], rfl, rfl, upd_same, (fun r hr => (List.not_mem_nil hr).elim), List.nodup_nil, Nat.zero_le _, fun q e => RzX.same s0 (k1 q e), fun e H' ex hT' hc hr' => k2 e H' ((EX.same s0).trans ex) hT' (hc.back s0) hr'⟩⟩
        have e : rsF [] = some q := e
        rw [rsF_nil] at e
        cases e
      | @some _ o' hs hne =>
        rw [hne]
        refine iteF ⟨_, rfl, v, o', rfl, Same.refl _, hs, fun q e => ?_, fun e => ?_⟩
        · cases hs with
          | no a b => exact k1 q e
          | dict a b c d =>
            have z := k1 q (catF_of e)
            rw [caL_some e] at z
            exact z
        · cases hs with
          | no a b => cases e
          | @dict d es hd hev hnd hlen =>
            have e : rsF es = none := e
            obtain ⟨rs, rfl, hrs⟩ := rows_of hev (rsF_good hnd e)
            rw [map_rKV] at hd
            have e1 : caR (.ref d) rv (some rd) (some (some (d, rs.map rE))) = catR rs rv (some rd) := by
              show catF (rs.map rE) rv (some rd) = _
              rw [catF_go e, rowsE_rows]
            have e2 : caRows (some (some (d, rs.map rE))) = rs := rowsE_rows rs
            rw [e1] at k1 k2
            rw [e2] at k2
            rw [caL_none e] at k1
            exact ⟨d, rs, rfl, rfl, hd, hrs, rows_nodup hnd, by rw [List.length_map] at hlen; exact hlen, k1, k2⟩
    rintro σ H1 ⟨v', o', rfl, s1, hsp, f1, f2⟩
    have hx1 := s1 _ _ hx
    have hT1 := hT.ext s1
    have hv1 := hv.mono s1
    clear k1 k2 hin hx hT hv
    refine ⟨_, rfl, v', o', rfl, hsp, fun er H2 s2 => ?_, fun q er => RzX.less (fun b hb => List.mem_cons_of_mem _ hb) (f1 q er)⟩
    obtain ⟨d, rs, rfl, rfl, hd1, hrs1, hnd, hlen, k1, k2⟩ := f2 er
    clear f1 f2 er hsp
    refine ⟨_, rfl, d, rs, rfl, s2 _ _ hd1, hrs1.mono s2, hnd, hlen, fun eo p1 H3 s3 n3 hp3 => ?_, fun y ey => (RzX.same s2 (k1 _ (catR_ovl ey))).rz⟩
    have s13 := s2.trans s3
    have hx3 := s13 _ _ hx1
    have nxp : p1 ≠ x := ne_of hp3 hx3 (by intro z; cases z)
    refine ⟨_, rfl, x, T.C_Catalog, dx, [], rfl, hx3, T.cl_Catalog, T.no_Catalog_spans, (by show 0 < 1000; decide), ?_⟩
    rw [fs1_eq]
    have g4 : SX [x] H1 (upd H3 x (.ins T.C_Catalog dx (fs1 p1))) := sx_upd (.of s13)
    have hx4 : (upd H3 x (.ins T.C_Catalog dx (fs1 p1))) x = some (.ins T.C_Catalog dx (fs1 p1)) := upd_same
    have hp4 : (upd H3 x (.ins T.C_Catalog dx (fs1 p1))) p1 = some (.dK ((sortR rs).map rKV)) := by rw [upd_ne nxp]; exact hp3
    generalize upd H3 x (.ins T.C_Catalog dx (fs1 p1)) = H4 at g4 hx4 hp4
    have ndx : ∀ {Ha : Hp}, SX [x] H1 Ha → ND H1 Ha := fun s => .sx s fun b hb o e => by
      rw [List.mem_singleton.mp hb, hx1] at e
      cases e
      rfl
    have np1 : H1 p1 = none := s2.free n3
    clear s2 s3 s13 hx3 hp3 n3
    have hms : ∀ s, s ∈ (sortR rs).map (·.1) ↔ s ∈ rs.map (·.1) := fun s => by rw [sortR_names]; exact srt_mem
    refine ⟨_, rfl, _, rfl, x, T.C_Catalog, dx, _, _, rfl, hx4, T.cl_Catalog, T.no_Catalog_spans, lk1 _, rv, some rd, p1, sortR rs, rfl, hv1.nd (ndx g4), hp4, fun er H5 s5 => ?_, fun q er => RzX.less (fun b hb => (List.not_mem_nil hb).elim) ((k1 q (by rw [catR_go eo]; exact restR_X (by rw [← restX_congr hms]; exact er))).back g4 (sx_free g4 hx4))⟩
    have hx5 := s5 _ _ hx4
    have hp5 := s5 _ _ hp4
    refine ⟨_, rfl, _, rfl, x, T.C_Catalog, dx, fs1 p1, rfl, hx5, T.cl_Catalog, T.no_Catalog_rest, (by show 1 < 1000; decide), ?_⟩
    rw [fs2_eq]
    rw [restX_congr hms] at er
    obtain ⟨rt, rfl, hrt, hno, hnn, hrr⟩ := restX_none hv1 er
    rw [catR_go eo, hrr] at k1 k2
    rw [hrt] at k2
    have g6 : SX [x] H1 (upd H5 x (.ins T.C_Catalog dx (fs2 p1 (rvO rt)))) := sx_upd (g4.trans (.of s5))
    have hx6 : (upd H5 x (.ins T.C_Catalog dx (fs2 p1 (rvO rt)))) x = some (.ins T.C_Catalog dx (fs2 p1 (rvO rt))) := upd_same
    have hp6 : (upd H5 x (.ins T.C_Catalog dx (fs2 p1 (rvO rt)))) p1 = some (.dK ((sortR rs).map rKV)) := by rw [upd_ne nxp]; exact hp5
    generalize upd H5 x (.ins T.C_Catalog dx (fs2 p1 (rvO rt))) = H6 at g6 hx6 hp6
    clear s5 hx5 hp5 g4 hx4 hp4 er hrr hrt
    have hll : (srtS (rs.map (·.1)) ++ rt.toList).length = rs.length + rt.toList.length := by rw [List.length_append, srt_len, List.length_map]
    have hrl : rt.toList.length ≤ 1 := by cases rt <;> simp
    refine ⟨fun σ H7 => ∃ l, σ = [some (.ref x), some v, some (rvO rt), some (.ref d), some (.ref l)] ∧ Same H6 H7 ∧ H7 l = some (.lst ((srtS (rs.map (·.1)) ++ rt.toList).map V.str)), ⟨_, rfl, rfl, _, rfl, ?_⟩, ?_⟩
    · cases rt with
      | none =>
        refine iteT ⟨_, rfl, x, T.C_Catalog, dx, _, _, rfl, hx6, T.cl_Catalog, T.no_Catalog_spans, lk2 _ _, p1, _, rfl, hp6, fun q hq => ⟨q, rfl, same_new hq, ?_⟩⟩
        rw [upd_same, keysV]
        simp
      | some s =>
        refine iteF ⟨_, rfl, x, T.C_Catalog, dx, _, _, rfl, hx6, T.cl_Catalog, T.no_Catalog_spans, lk2 _ _, p1, _, rfl, .of hp6, _, rfl, ?_, fun q hq => ⟨q, rfl, same_new hq, ?_⟩⟩
        · rw [keysV, List.length_append, List.length_map, srt_len, List.length_map]
          show rs.length + 1 ≤ sizeLine
          exact Nat.le_trans (show rs.length + 1 ≤ 61 by omega) (by decide)
        · rw [upd_same, keysV]
          simp [rvO]
    rintro σ H7 ⟨l, rfl, s7, hl7⟩
    have hx7 := s7 _ _ hx6
    have hp7 := s7 _ _ hp6
    have nlx : l ≠ x := ne_of hl7 hx7 (by intro z; cases z)
    have nlp : l ≠ p1 := ne_of hl7 hp7 (by intro z; cases z)
    have g7 := g6.trans (.of s7)
    refine ⟨_, rfl, l, _, rfl, .inl (SqL.of hl7), _, _, rfl, rfl, _, rfl, ?_⟩
    rw [List.length_map, hll]
    rw [List.length_map] at k1 k2
    by_cases h8 : 8 < rs.length + rt.toList.length
    · rw [if_pos h8] at k1
      rw [decide_eq_true (by omega : (8 : Int) < ((rs.length + rt.toList.length : Nat) : Int))]
      exact iteT (raise_x T.x_TooMany T.n_TooMany (RzX.back g7 (sx_free g7 hx7) (k1 _ rfl)).rz)
    · rw [if_neg h8] at k2
      rw [decide_eq_false (by omega : ¬ (8 : Int) < ((rs.length + rt.toList.length : Nat) : Int))]
      refine iteF ⟨_, rfl, l, _, rfl, SqL.of hl7, (by rw [hll]; omega), fun ys q hperm hs hq => ?_⟩
      obtain rfl : ys = nmsC rs rt := (srt_eq hperm hs).trans (srt_perm ((List.mergeSort_perm _ _).append_right _))
      have s8 := same_new (o := .lst ((nmsC rs rt).map V.str)) hq
      have hq8 : (upd H7 q (.lst ((nmsC rs rt).map V.str))) q = some (.lst ((nmsC rs rt).map V.str)) := upd_same
      have hx8 := s8 _ _ hx7
      have hp8 := s8 _ _ hp7
      generalize upd H7 q (.lst ((nmsC rs rt).map V.str)) = H8 at s8 hq8 hx8 hp8
      have nqx : q ≠ x := ne_of hq8 hx8 (by intro z; cases z)
      refine ⟨_, rfl, x, T.C_Catalog, dx, fs2 p1 (rvO rt), rfl, hx8, T.cl_Catalog, T.no_Catalog_names, (by show 2 < 1000; decide), ?_⟩
      rw [fs3_eq]
      have g9 : SX [x] H1 (upd H8 x (.ins T.C_Catalog dx (fs3 p1 (rvO rt) q))) := sx_upd (g7.trans (.of s8))
      have hx9 : (upd H8 x (.ins T.C_Catalog dx (fs3 p1 (rvO rt) q))) x = some (.ins T.C_Catalog dx (fs3 p1 (rvO rt) q)) := upd_same
      have hp9 : (upd H8 x (.ins T.C_Catalog dx (fs3 p1 (rvO rt) q))) p1 = some (.dK ((sortR rs).map rKV)) := by rw [upd_ne nxp]; exact hp8
      have hq9 : (upd H8 x (.ins T.C_Catalog dx (fs3 p1 (rvO rt) q))) q = some (.lst ((nmsC rs rt).map V.str)) := by rw [upd_ne nqx]; exact hq8
      generalize upd H8 x (.ins T.C_Catalog dx (fs3 p1 (rvO rt) q)) = H9 at g9 hx9 hp9 hq9
      have hT9 : LamX.TabS H9 T.pt_all_stretches lamQ := by
        obtain ⟨ps, a1, a2, a3⟩ := hT1
        have nx : ∀ {b : Addr} {o : HO}, H1 b = some o → (∀ fs, o ≠ .ins T.C_Catalog dx fs) → b ∉ [x] := fun e n z => by
          rw [List.mem_singleton.mp z, hx1] at e
          exact n _ (Option.some.inj e).symm
        refine ⟨ps, g9 _ _ (nx a1 fun fs z => by cases z) a1, a2, fun pos cv hc => ?_⟩
        obtain ⟨c, e1, e2⟩ := a3 pos cv hc
        exact ⟨c, e1, g9 _ _ (nx e2 fun fs z => by unfold LamX.CodeO at z; cases z) e2⟩
      refine ⟨_, rfl, x, T.C_Catalog, dx, _, _, rfl, hx9, T.cl_Catalog, T.no_Catalog_spans, lk3 _ _ _, _, rfl, p1, rvO rt, sortR rs, rfl, hp9, (fun r hr => hrs1.nd (ndx g9) r (sortR_mem hr)), (by rw [sortR_names]; exact srt_nodup hnd), (by rw [sortR_len]; exact hlen), hT9, fun p2 H10 xs eN hT10 n10 hp10 => ?_⟩
      have hx10 := eN _ _ hx9 fun ps z => by cases z
      have nx2 : p2 ≠ x := ne_of hp10.1 hx10 (by intro z; cases z)
      refine ⟨_, rfl, x, T.C_Catalog, dx, fs3 p1 (rvO rt) q, rfl, hx10, T.cl_Catalog, T.no_Catalog_stretches, (by show 3 < 1000; decide), ?_⟩
      rw [fsC_eq]
      have e11 : EX [x] H1 (upd H10 x (.ins T.C_Catalog dx (fsC p1 (rvO rt) q p2))) := fun b o n e t => by
        rw [upd_ne (by simpa using n)]
        exact eN _ _ (g9 b o n e) t
      refine k2 rfl _ e11 ?_ ⟨dx, p1, q, p2, xs, upd_same, ?_, ?_, ?_, hrs1.nd (e11.nd fun b hb o e => ?_), np1, sx_free g7 hx7 _ hq, sx_free g9 hx9 _ n10⟩ rfl
      · obtain ⟨ps, a1, a2, a3⟩ := hT10
        refine ⟨ps, by rw [upd_ne (ne_of a1 hx10 (by intro z; cases z))]; exact a1, a2, fun pos cv hc => ?_⟩
        obtain ⟨c, e1, e2⟩ := a3 pos cv hc
        exact ⟨c, e1, by rw [upd_ne (ne_of e2 hx10 (by intro z; unfold LamX.CodeO at z; cases z))]; exact e2⟩
      · rw [upd_ne nxp]
        exact eN _ _ hp9 fun ps z => by cases z
      · rw [upd_ne nqx]
        exact eN _ _ hq9 fun ps z => by cases z
      · refine hp10.nd fun b o e z => ?_
        rw [upd_ne (fun w => by
          rw [w, hx10] at e
          cases e
          cases z)]
        exact e
      · rw [List.mem_singleton.mp hb, hx1] at e
        cases e
        rfl
theorem ok_Catalog_eq (T : Txt K mg base) : FnOk P w K mg base CX0 1 T.f_Catalog_eq T.fd_Catalog_eq ["self", "other"] (sp_ceq K T.C_Catalog) := by
  refine T.F_Catalog_eq.ok sc_Catalog_eq (fun vs H Q E h => ?_) (fun cdv A outer s H vs Q E hr h => ?_)
  · obtain ⟨x, z, rs, rt, rfl, _⟩ := h
    rfl
  · obtain ⟨x, z, rs, rt, rfl, hc, k⟩ := h
    refine ⟨_, (pss_one (ps_ret (pe_and (pe_callB (id := "isinstance") call_isi (by rfl) T.z_isinstance (by decide +kernel) (pa_cons (pv 1) (pa_cons (pe_glob (v := .ref T.C_Catalog) rfl T.g_Catalog rfl) pa_nil))) (pe_and (pe_cmpR (op_eqDD (u65 hr)) (pe_fld (pv 0) rfl) (pe_fld (pv 1) rfl) (nomark _)) (pe_one (pe_cmpR op_eq (pe_fld (pv 0) rfl) (pe_fld (pv 1) rfl) (nomark _))))))), ?_⟩
    have ic := T.ic_Catalog
    obtain ⟨dx, d, l, p, xs, h1, h2, h3, h4, h5⟩ := hc
    rcases k with ⟨t, ty, kt, k⟩ | ⟨y, rs', rt', rfl, ⟨dx', d', l', p', xs', g1, g2, g3, g4, g5⟩, k⟩
    · exact ⟨_, rfl, _, _, _, _, _, rfl, .own _, ty, kt, _, rfl, iteF k⟩
    · refine ⟨_, rfl, _, _, _, _, _, rfl, .own _, .base (.ins g1 ic.cl ic.ha ic.hn ic.htk ic.hm), ic.me, _, rfl, iteT ?_⟩
      have so : ∀ {rs : List Row}, RowsOk K H rs → RowsOk K H (sortR rs) := fun h r hr => h r (sortR_mem hr)
      refine ⟨_, rfl, x, _, dx, _, _, rfl, h1, T.cl_Catalog, T.no_Catalog_spans, lkS _ _ _ _, _, rfl, y, _, dx', _, _, rfl, g1, T.cl_Catalog, T.no_Catalog_spans, lkS _ _ _ _, d, d', _, _, _, _, rfl, rfl, h2, g2, ents_rows (so h5), ents_rows (so g5), _, rfl, ?_⟩
      rw [List.length_map, List.length_map, sortR_len, sortR_len]
      have k : Q (.bl ((rs.length == rs'.length && entsEq (sortD rs) (sortD rs')) && decide (rt = rt'))) H := k
      unfold sortD at k
      cases e : (rs.length == rs'.length && entsEq ((sortR rs).map fun r => ((.inr r.1 : Key), spD r.2.2)) ((sortR rs').map fun r => ((.inr r.1 : Key), spD r.2.2))) with
      | false =>
        rw [e] at k
        exact iteF k
      | true =>
        rw [e] at k
        refine iteT ⟨_, rfl, x, _, dx, _, _, rfl, h1, T.cl_Catalog, T.no_Catalog_rest, lkR _ _ _ _, _, rfl, y, _, dx', _, _, rfl, g1, T.cl_Catalog, T.no_Catalog_rest, lkR _ _ _ _, rvO_scal _ _, ?_⟩
        rw [rvO_dec]
        exact k
theorem ok_InvalidText_init (T : Txt K mg base) : FnOk P w K mg base CX0 1 T.f_InvalidText_init T.fd_InvalidText_init ["self", "value"] (sp_xinit K T.C_InvalidText "value") := by
  refine T.F_InvalidText_init.ok sc_InvalidText_init (fun vs H Q E h => ?_) (fun cdv A outer s H vs Q E hr h => ?_)
  · obtain ⟨a, v, rfl, _⟩ := h
    rfl
  · obtain ⟨a, v, rfl, x, n, ha, k⟩ := h
    refine ⟨_, (pss_one (ps_ost (pv 0) (pv 1))), ?_⟩
    exact ⟨_, rfl, _, rfl, a, T.C_InvalidText, rfl, x, n, .inl ⟨ha, k⟩⟩
theorem ok_is_number_text (T : Txt K mg base) : FnOk P w K mg base CX0 1 T.f_is_number_text T.fd_is_number_text ["text"] (sp_s1 numB) := by
  refine T.F_is_number_text.ok sc_is_number_text (fun vs H Q E h => ?_) (fun cdv A outer s H vs Q E hr h => ?_)
  · obtain ⟨w, rfl, _⟩ := h
    rfl
  · obtain ⟨w, rfl, hw, k⟩ := h
    have hz : w.length ≤ sizeLine := Nat.le_trans hw (by decide)
    refine ⟨_, (pss_cons (ps_set (i := 1) sc_is_number_text.nd rfl (Or.inl rfl) (pe_m1 PySem.F.slot_str_removeprefix PySem.F.type_str_removeprefix mt_removeprefix (pv 0) pe_str))
        (pss_cons (ps_if (pt_not (pt_chain op_le op_le pe_int (pe_callB (id := "len") call_len_str (by rfl) T.z_len (by decide +kernel) (pa_cons (pv 1) pa_nil)) (pe_glob (v := .int 30) rfl T.c_MOST_DIGITS ⟨_, rfl⟩))) (pss_one (ps_ret pe_bl)) pss_nil)
        (pss_cons (ps_if (pt_not (pt_val (pe_callB (id := "all") (cr_all rfl) (by rfl) T.z_all (by decide +kernel) (pa_cons (pe_lc (own := [("sign", 2)]) (g := gName 2) (tt := tYes) rfl sc_is_number_text.nd (pi_str (pv 1)) (blkOk_by (own := [("sign", 2)]) (N := ["text", "digits", "sign"]) (sc := defScope s_is_number_text) (by decide +kernel)) (fun _ _ _ _ _ => (pg_name (i := 2) sc_is_number_text.nd rfl (Or.inl rfl))) (fun _ _ _ _ _ => pts_nil) (fun _ _ _ _ _ => (pe_chain op_le_str op_le_str pe_str (pv 2) pe_str))) pa_nil)))) (pss_one (ps_ret pe_bl)) pss_nil)
        (pss_one (ps_ret (pe_cmpR op_eq (pe_callTy (T := "str") call_str_int (by rfl) T.z_str (by decide +kernel) (pa_cons (pe_callTy (T := "int") call_int_str (by rfl) T.z_int (by decide +kernel) (pa_cons (pv 0) pa_nil)) pa_nil)) (pv 0) (nomark _))))))), ?_⟩
    refine ⟨_, rfl, ⟨w, rfl⟩, w, _, rfl, rfl, hz, ?_⟩
    have ed := rm_tl w
    have el : (Txt.removeprefix w ("-" : Str)).length = (sgn (tl w)).2.length := by
      rw [← ed]
      exact TL.len_tl _
    have e2 : (Txt.removeprefix w ("-" : Str)).length ≤ 1000 := Nat.le_trans (PyProof.Rows.len_removeprefix _ _) hw
    generalize Txt.removeprefix w ("-" : Str) = x at ed el e2 ⊢
    have hx : x.length ≤ sizeLine := Nat.le_trans e2 (by decide)
    have k : ∀ H', Same H H' → Q (.bl (numO (tl w)).isSome) H' := k
    refine ⟨_, rfl, _, rfl, hx, _, _, rfl, rfl, _, rfl, ?_⟩
    unfold numO at k
    cases c1 : decide ((1 : Int) ≤ x.length) with
    | false =>
      have hd : digOk (sgn (tl w)).2 = false := by
        unfold digOk
        rw [← el]
        have : decide (1 ≤ x.length) = false := decide_eq_false fun q => absurd (of_decide_eq_false c1) (by omega)
        rw [this]
        rfl
      rw [hd] at k
      exact iteF ⟨_, rfl, iteT (k H (Same.refl H))⟩
    | true =>
      refine iteT ⟨_, _, rfl, rfl, _, rfl, ?_⟩
      cases c2 : decide ((x.length : Int) ≤ 30) with
      | false =>
        have hd : digOk (sgn (tl w)).2 = false := by
          unfold digOk
          rw [← el]
          have : decide (x.length ≤ 30) = false := decide_eq_false fun q => absurd (of_decide_eq_false c2) (by omega)
          rw [this]
          cases decide (1 ≤ x.length) <;> rfl
        rw [hd] at k
        exact iteT (k H (Same.refl H))
      | true =>
        refine iteF ?_
        have hd : digOk (sgn (tl w)).2 = x.cps.toList.all isDig := by
          have e3 : x.cps.toList = (sgn (tl w)).2 := ed
          unfold digOk
          rw [← el, e3]
          have h1 : decide (1 ≤ x.length) = true := decide_eq_true (by have := of_decide_eq_true c1; omega)
          have h2 : decide (x.length ≤ 30) = true := decide_eq_true (by have := of_decide_eq_true c2; omega)
          rw [h1, h2]
          rfl
        refine ⟨_, rfl, _, rfl, fun D hD => ?_⟩
        refine lc_acc walk_str hD (fun _ _ => trivial) (fun i => (x.cps.toList.take i).map fun c => V.bl (isDig c)) rfl (fun i hi => ?_) ?_ ?_
        · rw [List.length_map, List.length_take]
          have : x.cps.size ≤ 1000 := e2
          exact Nat.lt_of_le_of_lt (Nat.min_le_left _ _) (Nat.lt_of_lt_of_le hi (Nat.le_trans this (by decide)))
        · rintro i y H2 hi ⟨c, hc, rfl⟩ s1 R S r1 r2
          have ea : ((x.cps.toList.take (i + 1)).map fun c => V.bl (isDig c)) = ((x.cps.toList.take i).map fun c => V.bl (isDig c)) ++ [V.bl (isDig c)] := by
            have hc' : x.cps.toList[i]? = some c := by rw [Array.getElem?_toList]; exact hc
            rw [List.take_add_one, hc']
            simp
          refine ⟨rfl, tyes ⟨_, rfl, _, _, rfl, rfl, _, rfl, ?_⟩⟩
          have ec := (dig_is c).symm
          have ea1 : ("0" : Str).cps.toList = [48] := by decide +kernel
          have ez1 : ("9" : Str).cps.toList = [57] := by decide +kernel
          rw [ea1]
          cases e4 : (!decide (([c] : List Nat) < [48])) with
          | false =>
            rw [e4] at ec
            refine iteF (r1 _ _ ?_ (Same.refl _))
            rw [ea, ec]
            rfl
          | true =>
            rw [e4] at ec
            refine iteT ⟨_, _, rfl, rfl, r1 _ _ ?_ (Same.refl _)⟩
            rw [ea, ec, ez1]
            rfl
        · intro H2 s1 hl
          refine ⟨D, x.cps.toList.map isDig, rfl, SqL.of ?_, ?_⟩
          · rw [hl, List.map_map]
            have : x.cps.toList.take x.cps.size = x.cps.toList := by rw [← Array.length_toList, List.take_length]
            rw [this]
            rfl
          have hall : ((x.cps.toList.map isDig).all fun b => b) = x.cps.toList.all isDig := by rw [List.all_map]; rfl
          have k2 := k H2 s1
          refine ⟨_, rfl, ?_⟩
          cases e5 : x.cps.toList.all isDig with
          | false =>
            have hn : (!((x.cps.toList.map isDig).all fun b => b)) = true := by rw [hall, e5]; rfl
            rw [hd, e5] at k2
            exact iteTe hn k2
          | true =>
            have hn : (!((x.cps.toList.map isDig).all fun b => b)) = false := by rw [hall, e5]; rfl
            have hd2 : digOk (sgn (tl w)).2 = true := hd.trans e5
            refine iteFe hn ⟨_, rfl, w, _, rfl, int_of hd2, Nat.le_trans (digOk_len hd2) (by decide), _, rfl, worth_log hd2, _, rfl, rfl, ?_⟩
            rw [dec_str, back_eq hd2]
            rw [hd2] at k2
            cases ez : zeroed (tl w) with
            | true =>
              rw [ez] at k2
              exact k2
            | false =>
              rw [ez] at k2
              exact k2
theorem ok_is_limit_text (T : Txt K mg base) : FnOk P w K mg base CX0 2 T.f_is_limit_text T.fd_is_limit_text ["text"] (sp_s1 limB) := by
  refine T.F_is_limit_text.ok sc_is_limit_text (fun vs H Q E h => ?_) (fun cdv A outer s H vs Q E hr h => ?_)
  · obtain ⟨w, rfl, _⟩ := h
    rfl
  · obtain ⟨w, rfl, hw, k⟩ := h
    refine ⟨_, (pss_one (ps_ret (pe_or (pe_cmpR op_eq (pv 0) pe_str (nomark _)) (pe_one (pe_call (ok_is_number_text T) hr rfl T.m_is_number_text T.F_is_number_text.kp T.b_is_number_text .nil pass0 (pa_cons (pv 0) pa_nil)))))), ?_⟩
    have k : ∀ H', Same H H' → Q (.bl (limT w).isSome) H' := k
    unfold limT at k
    refine ⟨_, rfl, rfl, _, rfl, ?_⟩
    rw [dec_str]
    cases e : w == ("" : Str) with
    | true =>
      rw [e] at k
      exact iteT (k H (Same.refl H))
    | false =>
      rw [e] at k
      refine iteF ⟨_, rfl, w, rfl, hw, fun H' s' => ?_⟩
      have := k H' s'
      rw [if_neg (by decide), Option.isSome_map] at this
      exact this
theorem ok_read_limit (T : Txt K mg base) : FnOk P w K mg base CX0 1 T.f_read_limit T.fd_read_limit ["text"] sp_read_limit := by
  refine T.F_read_limit.ok sc_read_limit (fun vs H Q E h => ?_) (fun cdv A outer s H vs Q E hr h => ?_)
  · obtain ⟨w, o, rfl, _⟩ := h
    rfl
  · obtain ⟨w, o, rfl, hw, ho, k⟩ := h
    refine ⟨_, (pss_one (ps_ret (pe_ifExp (pt_cmpR op_eq (pv 0) pe_str (nomark _)) pe_non (pe_callTy (T := "int") call_int_str (by rfl) T.z_int (by decide +kernel) (pa_cons (pv 0) pa_nil))))), ?_⟩
    unfold limT at ho
    refine ⟨_, rfl, rfl, _, rfl, ?_⟩
    rw [dec_str]
    cases e : w == ("" : Str) with
    | true =>
      rw [e] at ho
      cases ho
      exact iteT k
    | false =>
      rw [e, if_neg (by decide)] at ho
      obtain ⟨n, hn, rfl⟩ := Option.map_eq_some_iff.mp ho
      unfold numO at hn
      split at hn
      · rename_i c
        rw [Bool.and_eq_true] at c
        cases hn
        exact iteF ⟨_, rfl, w, _, rfl, int_of c.1, Nat.le_trans (digOk_len c.1) (by decide), k⟩
      · cases hn
theorem ok_limit_text (T : Txt K mg base) : FnOk P w K mg base CX0 1 T.f_limit_text T.fd_limit_text ["limit"] sp_limit_text := by
  refine T.F_limit_text.ok sc_limit_text (fun vs H Q E h => ?_) (fun cdv A outer s H vs Q E hr h => ?_)
  · obtain ⟨o, rfl, _⟩ := h
    rfl
  · obtain ⟨o, rfl, ho, k⟩ := h
    refine ⟨_, (pss_one (ps_ret (pe_ifExp (pt_cmpR op_isN (pv 0) pe_non (nomark _)) pe_str (pe_callTy (T := "str") call_str_int (by rfl) T.z_str (by decide +kernel) (pa_cons (pv 0) pa_nil))))), ?_⟩
    cases o with
    | none => exact ⟨_, rfl, rfl, _, rfl, iteT k⟩
    | some i => exact ⟨_, rfl, rfl, _, rfl, iteF ⟨_, rfl, i, rfl, log_lt ho, k⟩⟩
theorem ok_span_text (T : Txt K mg base) : FnOk P w K mg base (L2N.CX P w) 5 T.f_span_text T.fd_span_text ["span"] (sp_span_text K T.C_InvalidSpan) := by
  refine okXN T.F_span_text sc_span_text (fun vs H Q E h => ?_) (fun cdv A outer s H vs Q E hr h => ?_)
  · obtain ⟨v, o, rfl, _⟩ := h
    rfl
  · obtain ⟨v, o, rfl, hv, k1, k2⟩ := h
    refine ⟨_, (pss_cons (ps_expr (pe_call (ok_require_span T) hr rfl T.m_require_span T.F_require_span.kp T.b_require_span .nil (passCN (L2N.takes_of rfl rfl rfl rfl)) (pa_cons (pv 0) pa_nil)))
        (pss_cons (ps_asg (pv 0) (pg_tup rfl (pgs_cons (pg_name (i := 1) sc_span_text.nd rfl (Or.inl rfl)) (pgs_cons (pg_name (i := 2) sc_span_text.nd rfl (Or.inl rfl)) pgs_nil))))
        (pss_one (ps_ret (pe_joined (.cons (pe_fmt (pe_call (ok_limit_text T) (hr.mono (by decide)) rfl T.m_limit_text T.F_limit_text.kp T.b_limit_text .nil pass0 (pa_cons (pv 1) pa_nil))) (.cons pe_str (.cons (pe_fmt (pe_call (ok_limit_text T) (hr.mono (by decide)) rfl T.m_limit_text T.F_limit_text.kp T.b_limit_text .nil pass0 (pa_cons (pv 2) pa_nil))) .nil)))))))), ?_⟩
    refine ⟨_, rfl, v, o, rfl, hv, fun e1 H1 s1 => ?_, fun e => k1 e⟩
    obtain ⟨s', rfl, os⟩ := spanO_of e1
    obtain ⟨m1, m2, k⟩ := k2 s' rfl os
    obtain ⟨a, rfl, ha⟩ := hv.sp
    have ha1 := same_t s1 ha
    have l1 := limS_ok m1
    have l2 := limS_ok m2
    refine ⟨_, rfl, a, _, rfl, ha1, rfl, _, _, rfl, _, _, rfl, rfl, ?_⟩
    have z1 : (limS s'.1).length ≤ 31 := l1.1
    have z2 : (limS s'.2).length ≤ 31 := l2.1
    have z3 : (".." : Str).length = 2 := by decide +kernel
    have z4 : 70 ≤ sizeLine := by decide
    refine ⟨_, rfl, s'.1, rfl, m1, .inl ⟨_, rfl, by omega, _, rfl, ?_, _, rfl, ?_, _, rfl, s'.2, rfl, m2, .inl ⟨_, rfl, by omega, _, rfl, ?_, ?_⟩⟩⟩
    · rw [emp_app]
      omega
    · rw [emp_app, Str.length_append]
      omega
    · rw [emp_app, Str.length_append, Str.length_append]
      omega
    · rw [emp_app]
      exact k H1 s1
theorem ok_read_span (T : Txt K mg base) : FnOk P w K mg base (L2N.CX P w) 4 T.f_read_span T.fd_read_span ["text"] (sp_read_span K T.C_InvalidText) := by
  refine okXN T.F_read_span sc_read_span (fun vs H Q E h => ?_) (fun cdv A outer s H vs Q E hr h => ?_)
  · obtain ⟨v, o, rfl, _⟩ := h
    rfl
  · obtain ⟨v, o, rfl, hv, k1, k2⟩ := h
    refine ⟨_, (pss_cons (ps_if (pt_not (pt_val (pe_callB (id := "isinstance") call_isi (by rfl) T.z_isinstance (by decide +kernel) (pa_cons (pv 0) (pa_cons (pe_bltn (v := .ty "str") (u := .type "str") (by rfl) T.z_str (by decide +kernel) rfl) pa_nil))))) (pss_one (L2N.ps_raise rfl (L2N.takes_of rfl rfl rfl rfl) (pmkN_oex T.x_InvalidText T.i_InvalidText T.t_InvalidText (ok_InvalidText_init T) (hr.mono (by decide)) T.b_InvalidText_init pass0 rfl T.g_InvalidText (pa_cons (pv 0) pa_nil)))) pss_nil)
        (pss_cons (ps_asg (pe_partition (pv 0) pe_str) (pg_tup rfl (pgs_cons (pg_name (i := 1) sc_read_span.nd rfl (Or.inl rfl)) (pgs_cons (pg_name (i := 2) sc_read_span.nd rfl (Or.inl rfl)) (pgs_cons (pg_name (i := 3) sc_read_span.nd rfl (Or.inl rfl)) pgs_nil)))))
        (pss_cons (ps_if (PW.pt (pw_or (pt_cmpR op_eq (pv 2) pe_str (nomark _)) (pw_or (pt_not (pt_val (pe_call (ok_is_limit_text T) (hr.mono (by decide)) rfl T.m_is_limit_text T.F_is_limit_text.kp T.b_is_limit_text .nil pass0 (pa_cons (pv 1) pa_nil)))) (pw_or1 (pt_not (pt_val (pe_call (ok_is_limit_text T) (hr.mono (by decide)) rfl T.m_is_limit_text T.F_is_limit_text.kp T.b_is_limit_text .nil pass0 (pa_cons (pv 3) pa_nil)))))))) (pss_one (L2N.ps_raise rfl (L2N.takes_of rfl rfl rfl rfl) (pmkN_oex T.x_InvalidText T.i_InvalidText T.t_InvalidText (ok_InvalidText_init T) (hr.mono (by decide)) T.b_InvalidText_init pass0 rfl T.g_InvalidText (pa_cons (pv 0) pa_nil)))) pss_nil)
        (pss_cons (ps_set (i := 4) sc_read_span.nd rfl (Or.inl rfl) (pe_tup (pa_cons (pe_call (ok_read_limit T) (hr.mono (by decide)) rfl T.m_read_limit T.F_read_limit.kp T.b_read_limit .nil pass0 (pa_cons (pv 1) pa_nil)) (pa_cons (pe_call (ok_read_limit T) (hr.mono (by decide)) rfl T.m_read_limit T.F_read_limit.kp T.b_read_limit .nil pass0 (pa_cons (pv 3) pa_nil)) pa_nil))))
        (pss_cons (ps_if (pt_not (pt_val (pe_call (ok_is_span T) hr rfl T.m_is_span T.F_is_span.kp T.b_is_span .nil pass0 (pa_cons (pv 4) pa_nil)))) (pss_one (L2N.ps_raise rfl (L2N.takes_of rfl rfl rfl rfl) (pmkN_oex T.x_InvalidText T.i_InvalidText T.t_InvalidText (ok_InvalidText_init T) (hr.mono (by decide)) T.b_InvalidText_init pass0 rfl T.g_InvalidText (pa_cons (pv 0) pa_nil)))) pss_nil)
        (pss_one (ps_ret (pv 4)))))))), ?_⟩
    refine ⟨_, rfl, _, _, _, _, _, rfl, .ty _, hv.ty, kit_o o (.inr (.inr (.inl rfl))), ?_⟩
    refine ⟨_, rfl, ?_⟩
    cases e : isT "str" o with
    | false =>
      have e2 : rdT o = none := by
        rcases o with _ | d
        · rfl
        · cases d with
          | str s => cases e
          | _ => rfl
      exact iteT ⟨_, rfl, raise_x T.x_InvalidText T.n_InvalidText (k1 e2)⟩
    | true =>
      obtain ⟨x, rfl, rfl, hx, _⟩ := hv.str_of e
      have hz : x.length ≤ sizeLine := Nat.le_trans hx (by decide)
      refine iteF ?_
      have k1 : rdO x = none → Rz H E T.C_InvalidText "value" (V.str x) := k1
      have k2 : ∀ s : Span, rdO x = some s → ∀ p H', Same H H' → H p = none → H' p = some (.tup (spV s)) → Q (.ref p) H' := k2
      obtain ⟨low, dots, high, eP, hlow, hhigh, eR⟩ := cut_parts x hx
      refine ⟨_, rfl, ⟨x, rfl⟩, x, _, rfl, rfl, (by decide +kernel), hz, fun p hp => ?_⟩
      rw [eP]
      have s1 := same_new (o := .tup [.str low, .str dots, .str high]) hp
      refine ⟨p, _, rfl, SqT.of upd_same, rfl, _, _, rfl, _, _, rfl, _, _, rfl, rfl, ?_⟩
      have bad : ∀ H2, Same H H2 → rdO x = none → Rz H2 E T.C_InvalidText "value" (V.str x) := fun H2 s2 e => (k1 e).back s2
      refine ⟨_, rfl, rfl, _, rfl, ?_⟩
      rw [dec_str]
      cases ed : dots == ("" : Str) with
      | true =>
        rw [ed] at eR
        exact iteT (iteT ⟨_, rfl, raise_x T.x_InvalidText T.n_InvalidText (bad _ s1 eR)⟩)
      | false =>
        rw [ed, if_neg (by decide)] at eR
        refine iteF ⟨_, rfl, low, rfl, hlow, fun H2 s2 => ⟨_, rfl, ?_⟩⟩
        have s12 := s1.trans s2
        cases el : limT low with
        | none =>
          have : limB low = false := by unfold limB; rw [el]; rfl
          rw [this]
          rw [el] at eR
          exact iteT (iteT ⟨_, rfl, raise_x T.x_InvalidText T.n_InvalidText (bad _ s12 eR)⟩)
        | some a =>
          have : limB low = true := by unfold limB; rw [el]; rfl
          rw [this]
          refine iteF ⟨_, rfl, high, rfl, hhigh, fun H3 s3 => ⟨_, rfl, ?_⟩⟩
          have s13 := s12.trans s3
          rw [el] at eR
          cases eh : limT high with
          | none =>
            have : limB high = false := by unfold limB; rw [eh]; rfl
            rw [this]
            rw [eh] at eR
            exact iteT ⟨_, rfl, raise_x T.x_InvalidText T.n_InvalidText (bad _ s13 eR)⟩
          | some b =>
            have : limB high = true := by unfold limB; rw [eh]; rfl
            rw [this]
            rw [eh] at eR
            refine iteF ⟨_, rfl, low, a, rfl, hlow, el, _, rfl, high, b, rfl, hhigh, eh, (by show 2 ≤ sizeLine; decide), fun q hq => ?_⟩
            have s4 := same_new (o := .tup [limV a, limV b]) hq
            refine ⟨_, rfl, _, some (spD (a, b)), rfl, vd_sp (SqT.of upd_same), fun H5 s5 => ⟨_, rfl, ?_⟩⟩
            rw [spanO_ok]
            have sf := (s13.trans s4).trans s5
            have eR : rdO x = if okS (a, b) = true then some (a, b) else none := eR
            cases ec : okS (a, b) with
            | false =>
              rw [ec] at eR
              exact iteT ⟨_, rfl, raise_x T.x_InvalidText T.n_InvalidText (bad _ sf eR)⟩
            | true =>
              rw [ec] at eR
              exact iteF ⟨_, rfl, k2 _ eR q H5 sf (s13.free hq) (s5 _ _ upd_same)⟩
theorem ok_law_meet (T : Txt K mg base) : FnOk P w K mg base CX0 1 T.f_law_meet T.fd_law_meet ["_law_one", "_law_other"] (sp_lmeet K) := by
  refine T.F_law_meet.ok sc_law_meet (fun vs H Q E h => ?_) (fun cdv A outer s H vs Q E hr h => ?_)
  · obtain ⟨a, b, s, t, rfl, _⟩ := h
    rfl
  · obtain ⟨a, b, sp, t, rfl, ha, hb, k⟩ := h
    refine ⟨_, (pss_cons (ps_for PassesOwn.never rfl (pi_list (pe_lst (pa_cons (pe_tup (pa_cons (pe_ix ix_tup (pv 0) pe_int (fun _ _ => rfl)) (pa_cons (pe_ix ix_tup (pv 1) pe_int (fun _ _ => rfl)) pa_nil))) (pa_cons (pe_tup (pa_cons (pe_ix ix_tup (pv 1) pe_int (fun _ _ => rfl)) (pa_cons (pe_ix ix_tup (pv 0) pe_int (fun _ _ => rfl)) pa_nil))) pa_nil)))) (pg_tup rfl (pgs_cons (pg_name (i := 2) sc_law_meet.nd rfl (Or.inl rfl)) (pgs_cons (pg_name (i := 3) sc_law_meet.nd rfl (Or.inl rfl)) pgs_nil)))
          (pss_one (ps_if (PW.pt (pw_and (pt_cmpR op_notN (pv 2) pe_non (nomark _)) (pw_and (pt_cmpR op_notN (pv 3) pe_non (nomark _)) (pw_and1 (pt_cmpR op_ge (pv 2) (pv 3) (nomark _)))))) (pss_one (ps_ret pe_bl)) pss_nil)))
        (pss_one (ps_ret pe_bl))), ?_⟩
    refine ⟨_, rfl, a, _, 0, limV sp.1, rfl, rfl, ha, atI_nat (j := 0) rfl, _, rfl, b, _, 1, limV t.2, rfl, rfl, hb, atI_nat (j := 1) rfl, (by show 2 ≤ sizeLine; decide), fun t1 h1 => ?_⟩
    have s1 := same_new (o := .tup [limV sp.1, limV t.2]) h1
    refine ⟨_, rfl, b, _, 0, limV t.1, rfl, rfl, same_t s1 hb, atI_nat (j := 0) rfl, _, rfl, a, _, 1, limV sp.2, rfl, rfl, same_t s1 ha, atI_nat (j := 1) rfl, (by show 2 ≤ sizeLine; decide), fun t2 h2 => ⟨(by show 2 ≤ sizeLine; decide), fun l hl => ?_⟩⟩
    have s2 := same_new (o := .tup [limV t.1, limV sp.2]) h2
    have s3 := same_new (o := .lst [.ref t1, .ref t2]) hl
    have e1 := s3 _ _ (s2 _ _ (upd_same (H := H) (a := t1) (o := .tup [limV sp.1, limV t.2])))
    have e2 := s3 _ _ (upd_same (H := upd H t1 (.tup [limV sp.1, limV t.2])) (a := t2) (o := .tup [limV t.1, limV sp.2]))
    have sA := s1.trans (s2.trans s3)
    have el : (upd (upd (upd H t1 (.tup [limV sp.1, limV t.2])) t2 (.tup [limV t.1, limV sp.2])) l (.lst [.ref t1, .ref t2])) l = some (.lst [.ref t1, .ref t2]) := upd_same
    generalize upd (upd (upd H t1 (.tup [limV sp.1, limV t.2])) t2 (.tup [limV t.1, limV sp.2])) l (.lst [.ref t1, .ref t2]) = Hl at e1 e2 sA el
    clear s1 s2 s3
    refine ⟨l, rfl, ⟨_, SqL.of el⟩, for_list (K := K) (a := l) (xs := [.ref t1, .ref t2]) (fun i σ H' => ∃ v2 v3, σ = [some (.ref a), some (.ref b), v2, v3] ∧ Same Hl H' ∧ (1 ≤ i → ok2 sp.1 t.2 = true) ∧ (2 ≤ i → ok2 t.1 sp.2 = true))
      ⟨none, none, rfl, Same.refl _, (fun h => by omega), fun h => by omega⟩ (fun i σ H' _ ⟨_, _, _, s, _⟩ => SqL.of (s _ _ el)) ?_ ?_⟩
    · rintro i x σ H4 hx ⟨v2, v3, rfl, s4, g1, g2⟩
      obtain ⟨lo, hi, tt, rfl, htt, hw⟩ : ∃ lo hi tt, x = V.ref tt ∧ Hl tt = some (.tup [limV lo, limV hi]) ∧ ((i = 0 ∧ lo = sp.1 ∧ hi = t.2) ∨ (i = 1 ∧ lo = t.1 ∧ hi = sp.2)) := by
        match i, hx with
        | 0, hx => cases hx; exact ⟨_, _, _, rfl, e1, .inl ⟨rfl, rfl, rfl⟩⟩
        | 1, hx => cases hx; exact ⟨_, _, _, rfl, e2, .inr ⟨rfl, rfl, rfl⟩⟩
      refine ⟨tt, _, rfl, SqT.of (s4 _ _ htt), rfl, _, _, rfl, _, _, rfl, rfl, ?_⟩
      have no : ok2 lo hi = false → Q (.bl false) H4 := fun h => by
        have := k H4 (sA.trans s4)
        have e : meetL sp t = false := by
          unfold meetL
          rcases hw with ⟨_, rfl, rfl⟩ | ⟨_, rfl, rfl⟩
          · rw [h, Bool.false_and]
          · rw [h, Bool.and_false]
        rw [e] at this
        exact this
      have yes : ok2 lo hi = true → (1 ≤ i + 1 → ok2 sp.1 t.2 = true) ∧ (2 ≤ i + 1 → ok2 t.1 sp.2 = true) := fun h => by
        rcases hw with ⟨rfl, rfl, rfl⟩ | ⟨rfl, rfl, rfl⟩
        · exact ⟨fun _ => h, fun z => by omega⟩
        · exact ⟨fun _ => g1 (Nat.le_refl _), fun _ => h⟩
      cases lo with
      | none => exact ⟨_, rfl, rfl, _, rfl, iteF ⟨_, _, rfl, s4, yes rfl⟩⟩
      | some lo =>
        refine ⟨_, rfl, rfl, _, rfl, iteT ?_⟩
        cases hi with
        | none => exact ⟨_, rfl, rfl, _, rfl, iteF ⟨_, _, rfl, s4, yes rfl⟩⟩
        | some hi =>
          refine ⟨_, rfl, rfl, _, rfl, iteT ⟨_, rfl, _, rfl, _, _, rfl, rfl, _, rfl, ?_⟩⟩
          by_cases h : hi ≤ lo
          · rw [decide_eq_true h]
            exact iteT (no (decide_eq_false (by omega)))
          · rw [decide_eq_false h]
            exact iteF ⟨_, _, rfl, s4, yes (decide_eq_true (by omega))⟩
    · rintro σ H4 ⟨v2, v3, rfl, s4, g1, g2⟩
      have := k H4 (sA.trans s4)
      unfold meetL at this
      rw [g1 (by show 1 ≤ 2; decide), g2 (Nat.le_refl _)] at this
      exact this
theorem ok_law_model (T : Txt K mg base) : FnOk P w K mg base CX0 4 T.f_law_model T.fd_law_model ["_law_box_here", "_law_most"] sp_lmodel := by
  refine T.F_law_model.ok sc_law_model (fun vs H Q E h => ?_) (fun cdv A outer s H vs Q E hr h => ?_)
  · obtain ⟨H0, p, n, m, rfl, _⟩ := h
    rfl
  · obtain ⟨H0, p, n, m, rfl, B, hm, hn, k⟩ := h
    refine ⟨_, (pss_cons (ps_set (i := 2) sc_law_model.nd rfl (Or.inl rfl) (pe_call (ok_law_names T) hr rfl T.m_law_names T.F_law_names.kp T.b_law_names .nil pass0 (pa_cons (pv 0) (pa_cons (pe_op op_add (pv 1) pe_int) pa_nil))))
        (pss_cons (ps_set (i := 3) sc_law_model.nd rfl (Or.inl rfl) (pe_ix ix_list (pe_lst (pa_cons pe_int (pa_cons pe_int (pa_cons (pe_op op_pow pe_int pe_int) (pa_cons (pe_op op_pow pe_int pe_int) pa_nil))))) (pe_call (ok_law_take T) (hr.mono (by decide)) rfl T.m_law_take T.F_law_take.kp T.b_law_take .nil pass0 (pa_cons (pv 0) (pa_cons pe_int pa_nil))) (fun _ _ => rfl)))
        (pss_cons (ps_set (i := 4) sc_law_model.nd rfl (Or.inl rfl) (pe_op op_mul (pe_op op_sub (pe_call (ok_law_take T) (hr.mono (by decide)) rfl T.m_law_take T.F_law_take.kp T.b_law_take .nil pass0 (pa_cons (pv 0) (pa_cons pe_int pa_nil))) pe_int) (pv 3)))
        (pss_cons (ps_set (i := 5) sc_law_model.nd rfl (Or.inl rfl) (pe_lst pa_nil))
        (pss_cons (ps_for PassesOwn.never rfl (pi_range1 rfl T.z_range (pa_cons (pe_call (ok_law_take T) (hr.mono (by decide)) rfl T.m_law_take T.F_law_take.kp T.b_law_take .nil pass0 (pa_cons (pv 0) (pa_cons (pe_op op_add (pv 1) pe_int) pa_nil))) pa_nil)) (pg_name (i := 6) sc_law_model.nd rfl (Or.inl rfl))
          (pss_cons (ps_set (i := 7) sc_law_model.nd rfl (Or.inl rfl) (pe_op op_add (pv 4) (pe_op op_mul (pe_ix ix_list (pe_lst (pa_cons pe_int (pa_cons pe_int (pa_cons (pe_op op_add pe_int (pe_call (ok_law_take T) (hr.mono (by decide)) rfl T.m_law_take T.F_law_take.kp T.b_law_take .nil pass0 (pa_cons (pv 0) (pa_cons pe_int pa_nil)))) pa_nil)))) (pe_call (ok_law_take T) (hr.mono (by decide)) rfl T.m_law_take T.F_law_take.kp T.b_law_take .nil pass0 (pa_cons (pv 0) (pa_cons pe_int pa_nil))) (fun _ _ => rfl)) (pv 3))))
        (pss_cons (ps_set (i := 4) sc_law_model.nd rfl (Or.inl rfl) (pe_op op_add (pv 7) (pe_op op_mul (pe_op op_add pe_int (pe_call (ok_law_take T) (hr.mono (by decide)) rfl T.m_law_take T.F_law_take.kp T.b_law_take .nil pass0 (pa_cons (pv 0) (pa_cons pe_int pa_nil)))) (pv 3))))
        (pss_one (ps_expr (pe_bm PySem.F.plainAttrs_list PySem.F.slot_list_append PySem.F.type_list_append mt_append (pv 5) (pa_cons (pe_lst (pa_cons (pe_ix ix_list (pv 2) (pv 6) (fun _ _ => rfl)) (pa_cons (pe_tup (pa_cons (pv 7) (pa_cons (pv 4) pa_nil))) pa_nil))) pa_nil)))))))
        (C8.pss_cut (ps_if (PW.pt (pw_and (pt_cmpR (op_neD hr.units) (pv 5) (pe_lst pa_nil) (nomark _)) (pw_and1 (pt_cmpR op_eq (pe_call (ok_law_take T) (hr.mono (by decide)) rfl T.m_law_take T.F_law_take.kp T.b_law_take .nil pass0 (pa_cons (pv 0) (pa_cons pe_int pa_nil))) pe_int (nomark _))))) (pss_one (ps_asg (pe_tup (pa_cons pe_non (pa_cons (pe_ix ix_tup (pe_ix ix_list (pe_ix ix_list (pv 5) pe_int (fun _ _ => rfl)) pe_int (fun _ _ => rfl)) pe_int (fun _ _ => rfl)) pa_nil))) (pg_sub (pe_ix ix_list (pv 5) pe_int (fun _ _ => rfl)) pe_int set_list))) pss_nil)
        (C8.pss_cut (ps_if (PW.pt (pw_and (pt_cmpR (op_neD hr.units) (pv 5) (pe_lst pa_nil) (nomark _)) (pw_and1 (pt_cmpR op_eq (pe_call (ok_law_take T) (hr.mono (by decide)) rfl T.m_law_take T.F_law_take.kp T.b_law_take .nil pass0 (pa_cons (pv 0) (pa_cons pe_int pa_nil))) pe_int (nomark _))))) (pss_one (ps_asg (pe_tup (pa_cons (pe_ix ix_tup (pe_ix ix_list (pe_ix ix_list (pv 5) (pe_un un_neg pe_int) (fun _ _ => rfl)) pe_int (fun _ _ => rfl)) pe_int (fun _ _ => rfl)) (pa_cons pe_non pa_nil))) (pg_sub (pe_ix ix_list (pv 5) (pe_un un_neg pe_int) (fun _ _ => rfl)) pe_int set_list))) pss_nil)
        (pss_cons (ps_set (i := 8) sc_law_model.nd rfl (Or.inl rfl) (pe_ix ix_list (pe_lst (pa_cons pe_non (pa_cons (pe_ix ix_list (pv 2) (pe_callB (id := "len") call_len_seq (by rfl) T.z_len (by decide +kernel) (pa_cons (pv 5) pa_nil)) (fun _ _ => rfl)) pa_nil))) (pe_call (ok_law_take T) (hr.mono (by decide)) rfl T.m_law_take T.F_law_take.kp T.b_law_take .nil pass0 (pa_cons (pv 0) (pa_cons pe_int pa_nil))) (fun _ _ => rfl)))
        (pss_one (ps_ret (pe_lst (pa_cons (pv 5) (pa_cons (pv 8) (pa_cons (pe_slice sl_list (pv 2) (po_some (pe_op op_add (pe_callB (id := "len") call_len_seq (by rfl) T.z_len (by decide +kernel) (pa_cons (pv 5) pa_nil)) pe_int)) po_none) pa_nil)))))))))))))), ?_⟩
    refine ⟨_, rfl, _, rfl, _, _, rfl, rfl, H0, p, n, m + 4, rfl, B, by omega, by omega, fun q1 H1 ss s1 q10 q1p hq1 hssl _ hnm hnd B1 => ?_⟩
    have hnmS : ∀ s ∈ ss, nameS s = true := fun s hs => (hnm s hs).1
    -- the unit
    refine ⟨_, _, rfl, rfl, ⟨by decide, by decide, by decide⟩, _, _, rfl, rfl, ⟨by decide, by decide, by decide⟩, (by show 4 ≤ sizeLine; decide), fun l1 hl1 => ?_⟩
    have B2 := B1.keep (same_new (o := .lst [.int 1, .int 1, .int (10 ^ (9 : Int).toNat), .int (10 ^ (27 : Int).toNat)]) hl1)
    have l1p : l1 ≠ p := by
      obtain ⟨_, _, _, hp, _⟩ := B1.box
      exact (ne_of_none hp hl1).symm
    have hq2 := same_new (o := .lst [.int 1, .int 1, .int (10 ^ (9 : Int).toNat), .int (10 ^ (27 : Int).toNat)]) hl1 _ _ hq1
    refine ⟨_, rfl, _, p, _, 4, rfl, B2.all.1, by omega, by decide, by decide, fun z1 H2 z10 z11 B3 => ?_⟩
    obtain ⟨v, hv, hvm⟩ := atI_in (xs := [V.int 1, .int 1, .int (10 ^ (9 : Int).toNat), .int (10 ^ (27 : Int).toNat)]) z10 z11
    obtain ⟨g, rfl, hg, hg2⟩ : ∃ g : Int, v = .int g ∧ 0 < g ∧ g ≤ 10 ^ 27 := by
      simp only [List.mem_cons, List.not_mem_nil, or_false] at hvm
      rcases hvm with rfl | rfl | rfl | rfl
      all_goals exact ⟨_, rfl, by decide, by decide⟩
    have sx3 := sxB B3
    refine ⟨l1, _, z1, _, rfl, rfl, SqL.of (sx3 _ _ (by simpa using l1p) upd_same), hv, ?_⟩
    have hq3 := sx3 _ _ (by simpa using q1p) hq2
    have B4 := B3.low B2.all.2
    clear B1 B2 B3 hq1 hq2 sx3 hv hvm hl1
    -- the first place
    refine ⟨_, rfl, _, p, _, 19, rfl, B4.all.1, by omega, by decide, by decide, fun z2 H3 z20 z21 B5 => ⟨_, _, rfl, rfl, _, rfl, _, _, rfl, rfl, .inl ⟨by omega, by omega⟩, ?_⟩⟩
    have hq4 := sxB B5 _ _ (by simpa using q1p) hq3
    have B6 := B5.low B4.all.2
    refine ⟨Nat.zero_le _, fun lr hlr => ?_⟩
    have lrp : lr ≠ p := by
      obtain ⟨_, _, _, hp, _⟩ := B6.box
      exact (ne_of_none hp hlr).symm
    have s7 := same_new (o := .lst []) hlr
    have B7 := B6.keep s7
    have hl7 : (upd H3 lr (.lst [])) lr = some (.lst []) := upd_same
    have hq7 := s7 _ _ hq4
    have lr0 : H0 lr = none := B6.same.free hlr
    have ql : q1 ≠ lr := ne_of_none hq4 hlr
    generalize upd H3 lr (.lst []) = H4 at s7 B7 hl7 hq7
    refine ⟨_, rfl, _, rfl, _, _, rfl, rfl, _, p, _, (m : Int) + 1, rfl, B7.all.1, by omega, by omega, by omega, fun zk H5 z30 z31 B8 => ?_⟩
    obtain ⟨kk, rfl⟩ := Int.eq_ofNat_of_zero_le z30
    have M5 : MdIn H0 H5 p q1 lr ss [] := MdIn.sx (sxB B8) ⟨q1p, hq7, lrp, ql, lr0, hl7, fun r hr => (List.not_mem_nil hr).elim, List.nodup_nil, rfl⟩
    have B9 := B8.low B7.all.2
    clear B4 B5 B6 B7 B8 hq3 hq4 hq7 hl7 hlr s7
    refine ⟨_, rfl, by omega, by omega, for_range (fun i σ H' => ∃ (at_ : Int) (v6 v7 : Option V) (rr : List MRow), σ = [some (.ref p), some (.int m), some (.ref q1), some (.int g), some (.int at_), some (.ref lr), v6, v7, none] ∧ BoxIn H0 H' p (n + 43 + 3 * i) ∧ MdIn H0 H' p q1 lr ss rr ∧ rr.length = i ∧ Line (rr.map (·.2.2.2)) at_ ∧ LowB (rr.map (·.2.2.2)) ((z2 - 9) * g) ∧ (z2 - 9) * g ≤ at_ ∧ at_ ≤ (z2 - 9) * g + i * (14 * g))
      ⟨_, none, none, [], rfl, B9, M5, rfl, ⟨.nil, fun s hs => (List.not_mem_nil hs).elim⟩, (fun s hs => (List.not_mem_nil hs).elim), Int.le_refl _, by simp⟩ ?_ ?_⟩
    · rintro i σ H6 hi ⟨at_, v6, v7, rr, rfl, B10, M, hrl, hline, hlow, hat1, hat2⟩
      have hi : i < kk := by omega
      refine ⟨_, rfl, _, rfl, _, p, _, 5, rfl, B10.all.1, by omega, by decide, by decide, fun za H7 za0 za1 B11 => ⟨_, _, rfl, rfl, (by show 3 ≤ sizeLine; decide), fun l hl => ?_⟩⟩
      have M7 := M.sx (sxB B11)
      have B12 := B11.low B10.all.2
      have lp : l ≠ p := by
        obtain ⟨_, _, _, hp, _⟩ := B12.box
        exact (ne_of_none hp hl).symm
      have s8 := same_new (o := .lst [.int 0, .int 0, .int (1 + za)]) hl
      have M8 := M7.sx (.of s8)
      have B13 := B12.keep s8
      have hl8 : (upd H7 l (.lst [.int 0, .int 0, .int (1 + za)])) l = some (.lst [.int 0, .int 0, .int (1 + za)]) := upd_same
      generalize upd H7 l (.lst [.int 0, .int 0, .int (1 + za)]) = H8 at s8 M8 B13 hl8
      refine ⟨_, rfl, _, p, _, 3, rfl, B13.all.1, by omega, by decide, by decide, fun zb H9 zb0 zb1 B14 => ?_⟩
      obtain ⟨v, hv, hvm⟩ := atI_in (xs := [V.int 0, .int 0, .int (1 + za)]) zb0 zb1
      obtain ⟨u, rfl, hu0, hu5⟩ : ∃ u : Int, v = .int u ∧ 0 ≤ u ∧ u ≤ 5 := by
        simp only [List.mem_cons, List.not_mem_nil, or_false] at hvm
        rcases hvm with rfl | rfl | rfl
        · exact ⟨_, rfl, by omega, by omega⟩
        · exact ⟨_, rfl, by omega, by omega⟩
        · exact ⟨_, rfl, by omega, by omega⟩
      have M9 := M8.sx (sxB B14)
      have B15 := B14.low B13.all.2
      refine ⟨l, _, zb, _, rfl, rfl, SqL.of (sxB B14 _ _ (by simpa using lp) hl8), hv, _, rfl, _, _, rfl, rfl, .inl ⟨by omega, by omega⟩, _, _, rfl, rfl, ?_⟩
      have hug : 0 ≤ u * g := Int.mul_nonneg hu0 (Int.le_of_lt hg)
      have hug5 : u * g ≤ 5 * g := Int.mul_le_mul_of_nonneg_right hu5 (Int.le_of_lt hg)
      clear B10 B11 B12 B13 B14 M M7 M8 hl8 hv hvm s8 hl
      -- the high limit
      refine ⟨_, rfl, _, rfl, _, p, _, 9, rfl, B15.all.1, by omega, by decide, by decide, fun zc H10 zc0 zc1 B16 => ⟨_, _, rfl, rfl, _, rfl, _, _, rfl, rfl, .inl ⟨by omega, by omega⟩, _, _, rfl, rfl, ?_⟩⟩
      have hcg : 0 < (1 + zc) * g := Int.mul_pos (by omega) hg
      have hcg9 : (1 + zc) * g ≤ 9 * g := Int.mul_le_mul_of_nonneg_right (by omega) (Int.le_of_lt hg)
      have M10 := M9.sx (sxB B16)
      have B17 := B16.low B15.all.2
      clear B15 B16 M9
      obtain ⟨nm, hnmi⟩ : ∃ nm, ss[i]? = some nm := ⟨_, List.getElem?_eq_getElem (by omega)⟩
      have hni : atI (ss.map V.str) (0 + (i : Int)) = some (V.str nm) := by
        rw [Int.zero_add]
        exact atI_nat (by rw [List.getElem?_map, hnmi]; rfl)
      refine ⟨_, rfl, .inl ⟨rfl, _, .inl (.inl M10.lst)⟩, _, rfl, _, rfl, q1, _, _, _, rfl, rfl, SqL.of M10.nm, hni, _, rfl, _, rfl, (by show 2 ≤ sizeLine; decide), fun t ht => ?_⟩
      have s11 := same_new (o := .tup [.int (at_ + u * g), .int (at_ + u * g + (1 + zc) * g)]) ht
      have tp : t ≠ p := by
        obtain ⟨_, _, _, hp, _⟩ := B17.box
        exact (ne_of_none hp ht).symm
      have M11 := M10.sx (.of s11)
      have B18 := B17.keep s11
      have ht11 : (upd H10 t (.tup [.int (at_ + u * g), .int (at_ + u * g + (1 + zc) * g)])) t = some (.tup [.int (at_ + u * g), .int (at_ + u * g + (1 + zc) * g)]) := upd_same
      generalize upd H10 t (.tup [.int (at_ + u * g), .int (at_ + u * g + (1 + zc) * g)]) = H11 at s11 M11 B18 ht11
      refine ⟨(by show 2 ≤ sizeLine; decide), fun r hr' => ?_⟩
      have s12 := same_new (o := .lst [.str nm, .ref t]) hr'
      have rp : r ≠ p := by
        obtain ⟨_, _, _, hp, _⟩ := B18.box
        exact (ne_of_none hp hr').symm
      have r0 : H0 r = none := B18.same.free hr'
      have rlr : r ≠ lr := (ne_of_none M11.lst hr').symm
      have rq : r ≠ q1 := (ne_of_none M11.nm hr').symm
      have rnew : ∀ x ∈ rr, x.1 ≠ r := fun x hx => ne_of_none (M11.rows x hx).1.1 hr'
      have M12 := M11.sx (.of s12)
      have B19 := B18.keep s12
      have ht12 := s12 _ _ ht11
      have hr12 : (upd H11 r (.lst [.str nm, .ref t])) r = some (.lst [.str nm, .ref t]) := upd_same
      generalize upd H11 r (.lst [.str nm, .ref t]) = H12 at s12 M12 B19 ht12 hr12
      refine ⟨lr, _, _, rfl, rfl, M12.lst, ?_, at_ + u * g + (1 + zc) * g, _, _, rr ++ [(r, nm, t, (some (at_ + u * g), some (at_ + u * g + (1 + zc) * g)))], rfl, (B19.mut lrp lr0).mono (by omega), ?_, by rw [List.length_append, List.length_singleton, hrl], ?_, ?_, by omega, ?_⟩
      · rw [List.length_map]
        exact Nat.lt_of_le_of_lt (show rr.length ≤ 100 by omega) (by decide)
      · have up : ∀ {b : Addr} {o : HO}, b ≠ lr → H12 b = some o → (upd H12 lr (.lst (rr.map (fun r => V.ref r.1) ++ [.ref r]))) b = some o := fun n e => by
          rw [upd_ne n]
          exact e
        refine ⟨M12.qp, up M12.ql M12.nm, M12.lp, M12.ql, M12.l0, by rw [upd_same, List.map_append]; rfl, fun x hx => ?_, ?_, ?_⟩
        · rcases List.mem_append.mp hx with hx | hx
          · obtain ⟨⟨a1, a2⟩, a3, a4, a5, a6, a7⟩ := M12.rows x hx
            exact ⟨⟨up a5 a1, up (ne_of a2 M12.lst (by intro z; cases z)) a2⟩, a3, a4, a5, a6, a7⟩
          · rw [List.mem_singleton.mp hx]
            exact ⟨⟨up rlr hr12, up (ne_of ht12 M12.lst (by intro z; cases z)) ht12⟩, rp, r0, rlr, tp, rq⟩
        · rw [List.map_append]
          refine List.nodup_append.mpr ⟨M12.nd, List.nodup_cons.mpr ⟨List.not_mem_nil, List.nodup_nil⟩, fun a ha b hb => ?_⟩
          obtain ⟨x, hx, rfl⟩ := List.mem_map.mp ha
          have hb : b = r := List.mem_singleton.mp hb
          rw [hb]
          exact rnew x hx
        · rw [List.map_append, List.length_append, List.length_singleton, M12.eq, List.take_add_one, hrl, hnmi]
          rfl
      · rw [List.map_append]
        exact hline.snoc (by omega) (by omega)
      · rw [List.map_append]
        intro s hs
        rcases List.mem_append.mp hs with hs | hs
        · exact hlow s hs
        · rw [List.mem_singleton.mp hs]
          exact ⟨_, rfl, by omega⟩
      · have e : ((i + 1 : Nat) : Int) * (14 * g) = (i : Int) * (14 * g) + 14 * g := by
          rw [Int.natCast_add, Int.add_mul]
          omega
        rw [e]
        omega
    · rintro σ H6 ⟨at_, v6, v7, rr, rfl, B10, M, hrl, hline, hlow, hat1, hat2⟩
      have hrl : rr.length = kk := by omega
      have hkk : (kk : Int).toNat = kk := by omega
      rw [hkk] at hat2
      have hok : SmL (rr.map (·.2.2.2)) := fun s hs => by
        obtain ⟨a, b, rfl, h1, h2⟩ := hline.2 s hs
        obtain ⟨a', e, h3⟩ := hlow _ hs
        cases e
        have k9 : kk ≤ 9 := by omega
        exact ⟨decide_eq_true h1, small_at hg hg2 z20 z21 k9 h3 (by omega), small_at hg hg2 z20 z21 k9 (by omega) (by omega)⟩
      have hch := hline.1
      have B10 := B10.mono (show n + 43 + 3 * (kk : Int).toNat ≤ n + 70 by omega)
      refine ⟨fun σ H' => ∃ (rr' : List MRow), σ = [some (.ref p), some (.int m), some (.ref q1), some (.int g), some (.int at_), some (.ref lr), v6, v7, none] ∧ BoxIn H0 H' p (n + 71) ∧ MdIn H0 H' p q1 lr ss rr' ∧ rr'.length = kk ∧ SmL (rr'.map (·.2.2.2)) ∧ Chain (rr'.map (·.2.2.2)), ⟨_, rfl, Nat.zero_le _, fun e0 he0 => ?_⟩, ?_⟩
      · have s7 := same_new (o := .lst []) he0
        have M7 := M.sx (.of s7)
        have B11 := B10.keep s7
        refine ⟨_, _, .lst (SqL.of M7.lst) (md_dp fun r hr => (M7.rows r hr).1), .lst (SqL.of upd_same) .nil, md_sh (md_names M hnmS), shaped_nil, _, rfl, ?_⟩
        rw [eqv_nil, List.isEmpty_map]
        generalize upd H6 e0 (.lst []) = H7 at s7 M7 B11
        clear s7 M B10 he0
        match rr, hrl, hok, hch, M7 with
        | [], hrl, hok, hch, M7 => exact iteF (iteF ⟨[], rfl, B11.mono (by omega), M7, hrl, hok, hch⟩)
        | r0 :: rest, hrl, hok, hch, M7 =>
          refine iteT ⟨_, rfl, _, p, _, 3, rfl, B11.all.1, by omega, by decide, by decide, fun z H8 z0 z1' B12 => ⟨rfl, _, rfl, ?_⟩⟩
          have M8 := M7.sx (sxB B12)
          have B13 := B12.low B11.all.2
          refine ite2 (fun _ => ?_) fun _ => ⟨_, rfl, B13, M8, hrl, hok, hch⟩
          obtain ⟨⟨a1, a2⟩, a3, a4, a5, a6, a7⟩ := M8.rows r0 List.mem_cons_self
          refine ⟨_, rfl, lr, _, 0, .ref r0.1, rfl, rfl, SqL.of M8.lst, atI_nat (j := 0) rfl, r0.1, _, 1, .ref r0.2.2.1, rfl, rfl, SqL.of a1, atI_nat (j := 1) rfl, r0.2.2.1, _, 1, limV r0.2.2.2.2, rfl, rfl, SqT.of a2, atI_nat (j := 1) rfl, (by show 2 ≤ sizeLine; decide), fun t ht => ?_⟩
          have tp : t ≠ p := by
            obtain ⟨_, _, _, hp, _⟩ := B13.box
            exact (ne_of_none hp ht).symm
          have s9 := same_new (o := .tup (spV (none, r0.2.2.2.2))) ht
          have M9 := M8.sx (.of s9)
          have B14 := B13.keep s9
          have MR := MdIn.rep (pre := []) (s' := (none, r0.2.2.2.2)) M8 ht tp
          refine ⟨_, rfl, lr, _, 0, .ref r0.1, rfl, rfl, SqL.of M9.lst, atI_nat (j := 0) rfl, r0.1, _, 1, 1, rfl, rfl, s9 _ _ a1, rfl, (r0.1, r0.2.1, t, (none, r0.2.2.2.2)) :: rest, rfl, B14.mut a3 a4, MR, hrl, fun s hs => ?_, chain_head hch rfl⟩
          rcases List.mem_cons.mp hs with hs | hs
          · rw [hs]
            exact ⟨rfl, trivial, (hok _ List.mem_cons_self).2.2⟩
          · exact hok s (List.mem_cons_of_mem _ hs)
      rintro σ H7 ⟨rr1, rfl, B11, M7, hrl1, hok1, hch1⟩
      clear B10 M hrl hline hok hch B9 M5
      refine ⟨fun σ H' => ∃ (rr' : List MRow), σ = [some (.ref p), some (.int m), some (.ref q1), some (.int g), some (.int at_), some (.ref lr), v6, v7, none] ∧ BoxIn H0 H' p (n + 72) ∧ MdIn H0 H' p q1 lr ss rr' ∧ rr'.length = kk ∧ SmL (rr'.map (·.2.2.2)) ∧ Chain (rr'.map (·.2.2.2)), ⟨_, rfl, Nat.zero_le _, fun e0 he0 => ?_⟩, ?_⟩
      · have s7 := same_new (o := .lst []) he0
        have M8 := M7.sx (.of s7)
        have B12 := B11.keep s7
        refine ⟨_, _, .lst (SqL.of M8.lst) (md_dp fun r hr => (M8.rows r hr).1), .lst (SqL.of upd_same) .nil, md_sh (md_names M7 hnmS), shaped_nil, _, rfl, ?_⟩
        rw [eqv_nil, List.isEmpty_map]
        generalize upd H7 e0 (.lst []) = H8 at s7 M8 B12
        clear s7 M7 B11 he0
        rcases List.eq_nil_or_concat rr1 with rfl | ⟨rest, r0, rfl⟩
        · exact iteF (iteF ⟨[], rfl, B12.mono (by omega), M8, hrl1, hok1, hch1⟩)
        · rw [List.concat_eq_append] at hrl1 hok1 hch1 M8 ⊢
          have hne : (rest ++ [r0]).isEmpty = false := by cases rest <;> rfl
          rw [hne]
          refine iteT ⟨_, rfl, _, p, _, 3, rfl, B12.all.1, by omega, by decide, by decide, fun z H9 z0 z1' B13 => ⟨rfl, _, rfl, ?_⟩⟩
          have M9 := M8.sx (sxB B13)
          have B14 := B13.low B12.all.2
          refine ite2 (fun _ => ?_) fun _ => ⟨_, rfl, B14, M9, hrl1, hok1, hch1⟩
          obtain ⟨⟨a1, a2⟩, a3, a4, a5, a6, a7⟩ := M9.rows r0 (List.mem_append_right _ List.mem_cons_self)
          have hlast : ∀ {H' : Hp}, atI ((rest ++ [r0]).map fun r => V.ref r.1) (-1) = some (V.ref r0.1) := by
            rw [List.map_append]
            exact atI_last _ _
          refine ⟨_, rfl, _, rfl, lr, _, _, .ref r0.1, rfl, rfl, SqL.of M9.lst, hlast (H' := H9), r0.1, _, 1, .ref r0.2.2.1, rfl, rfl, SqL.of a1, atI_nat (j := 1) rfl, r0.2.2.1, _, 0, limV r0.2.2.2.1, rfl, rfl, SqT.of a2, atI_nat (j := 0) rfl, (by show 2 ≤ sizeLine; decide), fun t ht => ?_⟩
          have tp : t ≠ p := by
            obtain ⟨_, _, _, hp, _⟩ := B14.box
            exact (ne_of_none hp ht).symm
          have s9 := same_new (o := .tup (spV (r0.2.2.2.1, none))) ht
          have M10 := M9.sx (.of s9)
          have B15 := B14.keep s9
          have MR := MdIn.rep (pre := rest) (post := []) (s' := (r0.2.2.2.1, none)) M9 ht tp
          refine ⟨_, rfl, _, rfl, lr, _, _, .ref r0.1, rfl, rfl, SqL.of M10.lst, hlast (H' := H9), r0.1, _, 1, 1, rfl, rfl, s9 _ _ a1, rfl, rest ++ [(r0.1, r0.2.1, t, (r0.2.2.2.1, none))], rfl, B15.mut a3 a4, MR, ?_, fun s hs => ?_, ?_⟩
          · rw [List.length_append, List.length_singleton] at hrl1 ⊢
            exact hrl1
          · rw [List.map_append] at hs hok1
            rcases List.mem_append.mp hs with hs | hs
            · exact hok1 s (List.mem_append_left _ hs)
            · rw [List.mem_singleton.mp hs]
              refine ⟨?_, (hok1 _ (List.mem_append_right _ List.mem_cons_self)).2.1, trivial⟩
              show okS (r0.2.2.2.1, none) = true
              cases r0.2.2.2.1 <;> rfl
          · rw [List.map_append] at hch1 ⊢
            exact chain_last hch1 rfl
      rintro σ H8 ⟨rr2, rfl, B12, M8, hrl2, hok2, hch2⟩
      clear B11 M7 hrl1 hok1 hch1
      obtain ⟨nm, hnmi⟩ : ∃ nm, ss[kk]? = some nm := ⟨_, List.getElem?_eq_getElem (by omega)⟩
      have hkl : kk < ss.length := (List.getElem?_eq_some_iff.mp hnmi).1
      have lpM := M8.lp
      have hnk : atI (ss.map V.str) (kk : Int) = some (V.str nm) := atI_nat (by rw [List.getElem?_map, hnmi]; rfl)
      refine ⟨_, rfl, _, rfl, lr, _, rfl, .inl (SqL.of M8.lst), q1, _, _, .str nm, rfl, rfl, SqL.of M8.nm, ?_, (by show 2 ≤ sizeLine; decide), fun l hl => ?_⟩
      · rw [List.length_map, hrl2]
        exact hnk
      have lp : l ≠ p := by
        obtain ⟨_, _, _, hp, _⟩ := B12.box
        exact (ne_of_none hp hl).symm
      have s8 := same_new (o := .lst [V.non, .str nm]) hl
      have M9 := M8.sx (.of s8)
      have B13 := B12.keep s8
      have hl8 : (upd H8 l (.lst [V.non, .str nm])) l = some (.lst [V.non, .str nm]) := upd_same
      generalize upd H8 l (.lst [V.non, .str nm]) = H9 at s8 M9 B13 hl8
      refine ⟨_, rfl, _, p, _, 2, rfl, B13.all.1, by omega, by decide, by decide, fun z H10 z0 z1' B14 => ?_⟩
      obtain ⟨v, hv, hvm⟩ := atI_in (xs := [V.non, .str nm]) z0 z1'
      obtain ⟨rt, rfl, hrt⟩ : ∃ rt : Option Str, v = rvO rt ∧ (rt = none ∨ rt = some nm) := by
        simp only [List.mem_cons, List.not_mem_nil, or_false] at hvm
        rcases hvm with rfl | rfl
        · exact ⟨none, rfl, .inl rfl⟩
        · exact ⟨some nm, rfl, .inr rfl⟩
      have M10 := M9.sx (sxB B14)
      have B15 := B14.low B13.all.2
      refine ⟨l, _, z, _, rfl, rfl, SqL.of (sxB B14 _ _ (by simpa using lp) hl8), hv, _, rfl, _, rfl, _, rfl, _, rfl, lr, _, rfl, .inl (SqL.of M10.lst), _, _, rfl, rfl, _, rfl, q1, _, rfl, SqL.of M10.nm, fun ll hll => ?_⟩
      have ecut : cutV (ss.map V.str) (some (((rr2.map fun r => V.ref r.1).length : Int) + 1)) none = (ss.drop (kk + 1)).map V.str := by
        rw [List.length_map, hrl2]
        have := cut_dropV (ss.map V.str) (i := kk + 1) (by rw [List.length_map]; omega)
        rw [List.map_drop, ← this]
        rfl
      rw [ecut]
      have s11 := same_new (o := .lst ((ss.drop (kk + 1)).map V.str)) hll
      have M11 := M10.sx (.of s11)
      have B16 := B15.keep s11
      have hll1 : (upd H10 ll (.lst ((ss.drop (kk + 1)).map V.str))) ll = some (.lst ((ss.drop (kk + 1)).map V.str)) := upd_same
      have llp : ll ≠ p := by
        obtain ⟨_, _, _, hp, _⟩ := B15.box
        exact (ne_of_none hp hll).symm
      generalize upd H10 ll (.lst ((ss.drop (kk + 1)).map V.str)) = H11 at s11 M11 B16 hll1
      refine ⟨(by show 3 ≤ sizeLine; decide), fun q hq => ?_⟩
      have s12 := same_new (o := .lst [.ref lr, rvO rt, .ref ll]) hq
      have M12 := M11.sx (.of s12)
      have B17 := B16.keep s12
      have qp : q ≠ p := by
        obtain ⟨_, _, _, hp, _⟩ := B16.box
        exact (ne_of_none hp hq).symm
      have hq1 : (upd H11 q (.lst [.ref lr, rvO rt, .ref ll])) q = some (.lst [.ref lr, rvO rt, .ref ll]) := upd_same
      have hll2 := s12 _ _ hll1
      generalize upd H11 q (.lst [.ref lr, rvO rt, .ref ll]) = H12 at s12 M12 B17 hq1 hll2
      have hspl : ss = ss.take kk ++ (nm :: ss.drop (kk + 1)) := by
        conv => lhs; rw [← List.take_append_drop kk ss, List.drop_eq_getElem_cons hkl]
        rw [(List.getElem?_eq_some_iff.mp hnmi).2]
      have hsub : (rr2.map (·.2.1) ++ (rt.toList ++ ss.drop (kk + 1))).Sublist ss := by
        rw [M12.eq, hrl2]
        conv => rhs; rw [hspl]
        refine List.Sublist.append (List.Sublist.refl _) ?_
        rcases hrt with rfl | rfl
        · exact List.sublist_cons_self _ _
        · exact List.Sublist.refl _
      refine k (but H12 p) H12 q rr2 rt (ss.drop (kk + 1)) B17.all.2 (B17.all.1.mono (by omega)) ⟨⟨lr, ll, ?_, ?_, ?_⟩, fun r hr => ?_, fun r hr => ?_, hch2, fun s hs => hnmS s (hsub.subset hs), hnd.sublist hsub⟩ (by omega) ?_ hok2
      · rw [but_ne qp]; exact hq1
      · rw [but_ne lpM]; exact M12.lst
      · rw [but_ne llp]; exact hll2
      · obtain ⟨⟨a1, a2⟩, a3, a4, a5, a6, a7⟩ := M12.rows r hr
        exact ⟨by rw [but_ne a3]; exact a1, by rw [but_ne a6]; exact a2⟩
      · exact (hok2 _ (List.mem_map.mpr ⟨r, hr, rfl⟩)).1
      · rw [List.length_drop]
        omega
theorem ok_Catalog_str (T : Txt K mg base) : FnOk P w K mg base CX0 6 T.f_Catalog_str T.fd_Catalog_str ["self"] (sp_cstr6 K T.C_Catalog) := by
  refine T.F_Catalog_str.ok sc_Catalog_str (fun vs H Q E h => ?_) (fun cdv A outer s H vs Q E hr h => ?_)
  · obtain ⟨x, rs, rt, rfl, _⟩ := h
    rfl
  · obtain ⟨x, rs, rt, rfl, hc, hnd, hl, hsm, hrt, k⟩ := h
    refine ⟨_, (pss_cons (ps_if (pt_cmpR op_eq (pe_callB (id := "len") call_len_seq (by rfl) T.z_len (by decide +kernel) (pa_cons (pe_fld (pv 0) rfl) pa_nil)) pe_int (nomark _)) (pss_one (ps_ret pe_str)) pss_nil)
        (pss_cons (ps_lock (ps_setLc (i := 1) (own := [("name", 3)]) (g := gName 3) (tt := tYes) rfl sc_Catalog_str.nd rfl rfl (sw_true rfl rfl rfl (by decide +kernel)) (pi_keys (pe_fld (pv 0) rfl)) (blkOk_by (own := [("name", 3)]) (N := ["self", "texts", "rest", "name"]) (sc := defScope s_Catalog_str) (by decide +kernel)) (fun _ _ _ _ _ => (pg_name (i := 3) sc_Catalog_str.nd rfl (Or.inl rfl))) (fun _ _ _ _ _ => pts_nil) (fun _ _ _ _ _ => (pe_joinedN (.cons (pe_fmt (pv 3)) (.cons pe_str (.cons (pe_fmt (pe_call (ok_span_text T) hr rfl T.m_span_text T.F_span_text.kp T.b_span_text .nil passLN (pa_cons (pe_dget (hu_of hr) (show PE _ _ (tFld K _ _) from (pe_fld (pv 0) rfl)) (pv 3) (fun _ _ => rfl)) pa_nil))) .nil)))))))
        (pss_cons (ps_set (i := 2) sc_Catalog_str.nd rfl (Or.inl rfl) (pe_ifExp (pt_cmpR op_isN (pe_fld (pv 0) rfl) pe_non (nomark _)) (pe_lst pa_nil) (pe_lst (pa_cons (pe_joined (.cons pe_str (.cons (pe_fmt (pe_fld (pv 0) rfl)) .nil))) pa_nil))))
        (pss_one (ps_ret (pe_join pe_str (pe_lst (StX.pa_star (pv 1) (StX.pa_star (pv 2) pa_nil))))))))), ?_⟩
    obtain ⟨dx, d, l, p, xs, h1, h2, h3, h4, h5⟩ := id hc
    have hsn : ((sortR rs).map (·.1)).Nodup := by
      rw [sortR_names]
      exact srt_nodup hnd
    have h5' := sortR_ok h5
    have hl8 : (sortR rs).length ≤ 8 := by rw [sortR_len]; exact hl
    refine ⟨_, rfl, x, T.C_Catalog, dx, _, _, rfl, h1, T.cl_Catalog, T.no_Catalog_names, lkN _ _ _ _, l, _, rfl, .inl (SqL.of h3), rfl, _, rfl, ?_⟩
    refine ite2 (fun hz => k H "empty" ?_ (Same.refl H)) fun hz => ?_
    · unfold catS
      rw [if_pos]
      simpa using hz
    have hne : ¬ (nmsC rs rt).isEmpty = true := by simpa using hz
    have hxd : ∀ {o : HO}, (upd H d o) x = some (.ins T.C_Catalog dx (fsC d (rvO rt) l p)) := by
      intro o
      rw [upd_ne (ne_of h1 h2 (by intro z; cases z))]
      exact h1
    refine ⟨d, _, h2, trivial, fun od => ⟨_, rfl, x, T.C_Catalog, dx, _, _, rfl, hxd, T.cl_Catalog, T.no_Catalog_spans, lkS _ _ _ _, d, od, rfl, .inl ⟨_, upd_same, fun D hD => ?_⟩⟩⟩
    have ndD : d ≠ D := ne_of_none upd_same hD
    refine lc_acc (walk_keys.mono (fun H h => h) (fun i H y H' _ _ z => z)) hD (fun H' s' => s' _ _ upd_same) (fun i => ((sortR rs).take i).map fun r => V.str (rowT r)) rfl (fun i hi => ?_) ?_ ?_
    · rw [List.length_map]
      exact Nat.lt_of_le_of_lt (Nat.le_trans (List.length_take_le' _ _) hl8) (by decide)
    · rintro i y H1 hi ⟨k0, v0, hk, rfl⟩ s1 R S r1 r2
      rw [List.getElem?_map] at hk
      obtain ⟨r, hr1, e4⟩ := Option.map_eq_some_iff.mp hk
      have e4 : (Sum.inr r.1, V.ref r.2.1) = (k0, v0) := e4
      injection e4 with e4 e5
      subst e4 e5
      have hm := List.mem_of_getElem? hr1
      have nd1 : ND H H1 := (ND.lock h2).trans (.of s1)
      obtain ⟨q1, q2, q3⟩ := h5' r hm
      obtain ⟨m1, m2⟩ := hsm r (sortR_mem hm)
      have rl := rowT_len q3 m1 m2
      have nl := nameC_len q3
      have hval : valV ((sortR rs).map rKV) (.inr r.1) = some (.ref r.2.1) := by
        rw [valR (List.mem_map.mpr ⟨r, hm, rfl⟩), rowOf_self hsn r hm]
      have z1 : (" " : Str).length = 1 := by decide +kernel
      have z9 : 200 ≤ sizeLine := by decide
      have sl : (spS r.2.2).length ≤ 80 := by
        unfold rowT at rl
        rw [Str.length_append] at rl
        omega
      refine ⟨rfl, tyes ⟨_, rfl, .inl ⟨_, rfl, by omega, _, rfl, ?_, _, rfl, ?_, ?_⟩⟩⟩
      · rw [emp_app]
        omega
      · rw [emp_app, Str.length_append]
        omega
      · refine ⟨_, rfl, x, T.C_Catalog, dx, _, _, rfl, s1 _ _ hxd, T.cl_Catalog, T.no_Catalog_spans, lkS _ _ _ _, _, rfl, d, .ref r.2.1, rfl, .inl ⟨(sortR rs).map rKV, .inr r.1, .inr ⟨od, s1 _ _ upd_same⟩, rfl, hval.symm⟩, .ref r.2.1, some (spD r.2.2), rfl, vd_sp (nd1.tup q1), fun e => ?_, fun s2 e ok => ?_⟩
        · rw [spanO_ok, q2] at e
          cases e
        · have e : spD r.2.2 = spD s2 := Option.some.inj e
          obtain rfl := spD_inj e
          refine ⟨m1, m2, fun H3 s3 => .inl ⟨_, rfl, by omega, _, rfl, by unfold rowT at rl; omega, r1 _ _ ?_ s3⟩⟩
          rw [List.take_add_one, hr1, List.map_append]
          rfl
    · intro H1 s1 hD1
      rw [List.length_map, List.take_of_length_le (Nat.le_refl _)] at hD1
      refine ⟨s1 _ _ upd_same, ?_⟩
      have s2 := unlock h2 s1
      have hD2 : (upd H1 d (.dK ((sortR rs).map rKV))) D = some (.lst (((sortR rs).map rowT).map V.str)) := by
        rw [upd_ne ndD.symm, hD1, List.map_map]
        rfl
      generalize upd H1 d (.dK ((sortR rs).map rKV)) = H2 at s2 hD2
      have hx2 := s2 _ _ h1
      have fin : ∀ (e : Addr) (us : List Str) (H3 : Hp), Same H2 H3 → H3 e = some (.lst (us.map V.str)) → (∀ y ∈ us, y.length ≤ 80) → us.length ≤ 1 → us = rt.toList.map restT → tRet (tM1 (fun x xs H_1 Q => ∃ a p ys, x = V.str a ∧ xs = [V.ref p] ∧ (SqL K H_1 p (List.map V.str ys) ∨ SqT K H_1 p (List.map V.str ys)) ∧ (List.map (fun x => x.length) ys).sum + ys.length * a.length ≤ 16777216 ∧ Q (V.str (Txt.join a ys)) H_1) (tC (V.str "; ")) (tLst (StX.tStar K (tVar 1) (StX.tStar K (tVar 2) tNil)))) { nx := fun _ H' => Q V.non H', rt := Q } [some (.ref x), some (.ref D), some (.ref e), none] H3 := fun e us H3 s3 he hu1 hu2 hu3 => by
        refine ⟨⟨_, rfl⟩, _, rfl, D, _, rfl, .inr (SqL.of (s3 _ _ hD2)), _, rfl, e, _, rfl, .inr (SqL.of he), ?_, fun g hg => ?_⟩
        · rw [List.length_append, List.length_append, List.length_map, List.length_map, List.length_map]
          exact Nat.le_trans (show _ ≤ 100 by simp only [List.length_nil]; omega) (by decide)
        · refine ⟨"; ", g, (sortR rs).map rowT ++ us, rfl, rfl, .inl (SqL.of (by rw [upd_same, List.append_nil, List.map_append])), ?_, k _ _ (by unfold catS; rw [if_neg hne, hu3]) (s2.trans (s3.trans (same_new hg)))⟩
          have b := sum_le6 (m := 80) (ys := (sortR rs).map rowT ++ us) fun y hy => by
            rcases List.mem_append.mp hy with hy | hy
            · obtain ⟨r, hr', rfl⟩ := List.mem_map.mp hy
              obtain ⟨m1, m2⟩ := hsm r (sortR_mem hr')
              exact rowT_len (h5' r hr').2.2 m1 m2
            · exact hu1 y hy
          have z : ("; " : Str).length = 2 := by decide +kernel
          have ll : ((sortR rs).map rowT ++ us).length ≤ 9 := by
            rw [List.length_append, List.length_map]
            omega
          rw [z]
          omega
      refine ⟨_, rfl, x, T.C_Catalog, dx, _, _, rfl, hx2, T.cl_Catalog, T.no_Catalog_rest, lkR _ _ _ _, rfl, _, rfl, ?_⟩
      cases rt with
      | none => exact iteT ⟨Nat.zero_le _, fun e he => fin e [] _ (same_new he) upd_same (fun y hy => by cases hy) (by simp) rfl⟩
      | some s' =>
        have nl := nameC_len (hrt s' rfl)
        have z : ("rest " : Str).length = 5 := by decide +kernel
        have z9 : 200 ≤ sizeLine := by decide
        refine iteF ⟨_, rfl, ?_, _, rfl, x, T.C_Catalog, dx, _, _, rfl, hx2, T.cl_Catalog, T.no_Catalog_rest, lkR _ _ _ _, .inl ⟨_, rfl, by omega, _, rfl, ?_, (by show 1 ≤ sizeLine; decide), fun e he => fin e [_] _ (same_new he) upd_same (fun y hy => ?_) (by simp) rfl⟩⟩
        · rw [emp_app]
          omega
        · rw [emp_app, Str.length_append]
          omega
        · rw [List.mem_singleton.mp hy, emp_app, Str.length_append]
          omega
theorem ok_law_catalog (T : Txt K mg base) : FnOk P w K mg base CX0 11 T.f_law_catalog T.fd_law_catalog ["_law_box_here", "_law_model_here"] (sp_lcatG K T.C_Catalog T.pt_all_stretches) := by
  refine T.F_law_catalog.ok sc_law_catalog (fun vs H Q E h => ?_) (fun cdv A outer s H vs Q E hr h => ?_)
  · obtain ⟨p, n, q, rr, rt, rfl, _⟩ := h
    rfl
  · obtain ⟨p, n, q, rr, rt, rfl, S, M, G, hn, k⟩ := h
    refine ⟨_, (pss_one (ps_ret (pe_makeKS T.mk_Catalog (ok_Catalog_init T) hr rfl T.g_Catalog T.kb_Catalog_init_2_rest (passAt_of passLN) (pa_cons (pe_callTy (T := "dict") (call_dictP rfl) (by rfl) T.z_dict (by decide +kernel) (pa_cons (pe_call (ok_law_mixed T) (hr.mono (by decide)) rfl T.m_law_mixed T.F_law_mixed.kp T.b_law_mixed .nil pass0 (pa_cons (pv 0) (pa_cons (pe_lc (own := [("_law_row", 2)]) (g := gName 2) (tt := tYes) rfl sc_law_catalog.nd (pi_list (pe_ix ix_list (pv 1) pe_int (fun _ _ => rfl))) (blkOk_by (own := [("_law_row", 2)]) (N := ["_law_box_here", "_law_model_here", "_law_row"]) (sc := defScope s_law_catalog) (by decide +kernel)) (fun _ _ _ _ _ => (pg_name (i := 2) sc_law_catalog.nd rfl (Or.inl rfl))) (fun _ _ _ _ _ => pts_nil) (fun _ _ _ _ _ => (pe_callTy (T := "tuple") (r := rTupOfN K) call_tuple_of (by rfl) T.z_tuple (by decide +kernel) (pa_cons (pv 2) pa_nil)))) pa_nil))) pa_nil)) pa_nil) (pk_cons (pe_ix ix_list (pv 1) pe_int (fun _ _ => rfl)) pk_nil)))), ?_⟩
    obtain ⟨⟨lr, yy, hq, hlr⟩, hrows⟩ := id M
    have hl := rr_len G.len
    have le := nb_le H p
    have hq1 := le _ _ hq
    have hlr1 := le _ _ hlr
    have hnd1 := G.ndM
    refine ⟨_, rfl, _, rfl, q, _, 0, .ref lr, rfl, rfl, SqL.of hq1, atI_nat (j := 0) rfl, lr, rfl, ⟨_, SqL.of hlr1⟩, fun D hD => ?_⟩
    have Dp_ : D ≠ p := S.ne hD
    refine lc_it walk_list (fun j H' => ∃ ts : List Addr, Same H H' ∧ H' D = some (.lst (ts.map V.ref)) ∧ ts.length = j ∧ PySem.Paired (fun a (r : Row) => H' a = some (.tup [.str r.1, .ref r.2.1])) ts ((rowsM rr).take j)) ⟨[], same_new hD, upd_same, rfl, .nil⟩ (fun j H' _ ⟨ts, s, _⟩ => SqL.of (s _ _ hlr1)) ?_ ?_
    · rintro j x H1 H2 hj ⟨ts, s1, hD1, htl, hts⟩ hy
      obtain ⟨rfl, hx⟩ := hy
      have hx : (rr.map fun r => V.ref r.1)[j]? = some x := hx
      rw [List.getElem?_map] at hx
      obtain ⟨r, hr', rfl⟩ := Option.map_eq_some_iff.mp hx
      have hrm : r ∈ rr := List.mem_of_getElem? hr'
      obtain ⟨hr1, hr2⟩ := hrows r hrm
      have hri : (rowsM rr)[j]? = some (r.2.1, r.2.2.1, r.2.2.2) := by
        unfold rowsM
        rw [List.getElem?_map, hr']
        rfl
      refine ⟨rfl, tyes ⟨_, rfl, r.1, _, rfl, .inl ⟨SqL.of (s1 _ _ (le _ _ hr1)), fun t ht => ?_⟩⟩⟩
      have ntD : t ≠ D := (ne_of_none hD1 ht).symm
      have s2 := same_new (o := .tup [.str r.2.1, .ref r.2.2.1]) ht
      refine ⟨_, by rw [upd_ne ntD.symm]; exact hD1, ?_, ts ++ [t], fun b o e => ?_, by rw [upd_same, List.map_append]; rfl, by rw [List.length_append, htl]; rfl, ?_⟩
      · have hj : j < (rr.map fun r => V.ref r.1).length := hj
        rw [List.length_map] at hj ⊢
        exact Nat.lt_of_le_of_lt (show ts.length ≤ 100 by omega) (by decide)
      · rw [upd_ne (ne_of_none e hD)]
        exact s2 _ _ (s1 _ _ e)
      · rw [List.take_add_one, hri]
        refine paired_snoc (by rw [upd_ne ntD, upd_same]) (paired_imp (fun a r e => ?_) hts)
        rw [upd_ne (ne_of e hD1 (by intro z; cases z))]
        exact s2 _ _ e
    · rintro H1 ⟨ts, s1, hD1, htl, hts⟩
      rw [List.length_map] at htl hts
      have hts : PySem.Paired (fun a (r : Row) => H1 a = some (.tup [.str r.1, .ref r.2.1])) ts (rowsM rr) := by
        rw [List.take_of_length_le (by unfold rowsM; rw [List.length_map]; exact Nat.le_refl _)] at hts
        exact hts
      have S1 := S.keep s1
      have B1 := S1.box.in_
      refine ⟨but H1 p, p, D, n, _, rfl, B1, hD1, by rw [List.length_map]; omega, by rw [List.length_map]; omega, fun q2 H2 ys s2 hq20 hq2p hq2 hperm B2 => ?_⟩
      rw [List.length_map] at B2
      have S2 := S1.after B2
      have ex2 := ex_of B2
      have hys : ys = (ys.map refA).map V.ref := by
        rw [List.map_map]
        refine ((List.map_congr_left fun y hy => ?_).trans (List.map_id _)).symm
        obtain ⟨a, _, rfl⟩ := List.mem_map.mp (hperm.mem_iff.mp hy)
        rfl
      have hpA : (ys.map refA).Perm ts := by
        refine (hperm.map refA).trans (List.Perm.of_eq ?_)
        rw [List.map_map]
        exact List.map_id _
      generalize ys.map refA = ts2 at hys hpA
      subst hys
      have boxH1 := S1.box
      have hts2 : PySem.Paired (fun a (r : Row) => H2 a = some (.tup [.str r.1, .ref r.2.1])) ts (rowsM rr) := paired_imp (fun a r e => by
        obtain ⟨_, _, _, hp, _⟩ := boxH1
        exact ex2 _ _ (by simpa using ne_of e hp (by intro z; cases z)) e fun ps z => by cases z) hts
      obtain ⟨rs, hprs, hpm⟩ := paired_perm hpA hts2
      have hnd2 : (rs.map (·.1)).Nodup := (hpm.map _).nodup_iff.mpr hnd1
      have hpp : PySem.Paired (fun (a : Addr) (kv : Key × V) => SqT K H2 a [kV kv.1, kv.2]) ts2 (rs.map rKV) := by
        clear hpA hpm hnd2 hperm hq2
        induction hprs with
        | nil => exact .nil
        | cons a _ ih => exact .cons (SqT.of a) ih
      have hmk : mergeK [] (rs.map rKV) = rs.map rKV := by
        refine mergeK_nod _ [] ?_
        rw [List.nil_append, List.map_map]
        unfold List.Nodup at hnd2 ⊢
        rw [List.pairwise_map] at hnd2 ⊢
        exact hnd2.imp fun h e => h (Sum.inr.inj e)
      refine ⟨q2, ts2, rs.map rKV, rfl, SqL.of hq2, hpp, fun d hd => ?_⟩
      rw [hmk]
      have s3 := same_new (o := .dK (rs.map rKV)) hd
      have S3 := S2.keep s3
      have hd3 : (upd H2 d (.dK (rs.map rKV))) d = some (.dK (rs.map rKV)) := upd_same
      have exA : EX [p] H (upd H2 d (.dK (rs.map rKV))) := fun b o nb' e t => s3 _ _ (ex2 b o nb' (s1 _ _ e) t)
      generalize upd H2 d (.dK (rs.map rKV)) = H3 at s3 S3 hd3 exA
      have sn := nb_ex exA
      have M3 := M.mono sn
      have le3 := nb_le H3 p
      clear hts hts2 hprs hpp hmk hq2 hperm B2 B1 S1 S2 ex2 s1 s3 hD1
      obtain ⟨⟨lr', yy', hq3, _⟩, hrows3⟩ := id M3
      refine ⟨_, rfl, q, _, 1, rvO rt, rfl, rfl, SqL.of (le3 _ _ hq3), atI_nat (j := 1) rfl, rfl, rfl, fun x dx hx hdx ne => ?_⟩
      have sM : Same H3 (upd (upd H3 dx (.own x)) x (.ins T.C_Catalog dx [])) := fun b u e => by
        rw [upd_ne (ne_of_none e hx), upd_ne (ne_of_none e hdx)]
        exact e
      have hp3 : ∃ o, H3 p = some o := by
        obtain ⟨_, _, _, hp, _⟩ := S3.box
        exact ⟨_, hp⟩
      have hlenR : rs.length = rr.length := by
        rw [hpm.length_eq]
        unfold rowsM
        rw [List.length_map]
      refine cinit_rowsR sM hx upd_same (sM _ _ hd3) (fun r hr' => ?_) hnd2 (by omega) (fun s e => (G.rest s e).1) (S3.tab.ext sM) (fun z er => ?_) fun er H4 ex4 hT4 hcn => ?_
      · obtain ⟨m, hm, rfl⟩ := List.mem_map.mp (hpm.mem_iff.mp hr')
        exact ⟨SqT.of (sM _ _ (le3 _ _ (hrows3 m hm).2)), G.ok m hm, G.nms _ (List.mem_append_left _ (List.mem_map.mpr ⟨m, hm, rfl⟩))⟩
      · rw [catP hpm G] at er
        cases er
      · have nd4 := EX.nil0 ex4
        have box4 : BoxAt H4 p (n + 20) := (S3.box.mono (show n + ts.length ≤ n + 20 by omega)).nd nd4
        exact k H4 x rs (exA.trans (ex4.mono (by simp))) ⟨box4, hT4⟩ (hcn.nbC box4 hp3) hpm
theorem ok_hot_InvalidText_init (T : Txt K mg base) : L2H.FnH P w K mg base CX0 1 T.f_InvalidText_init T.fd_InvalidText_init ["self", "value"] (sp_xinit K T.C_InvalidText "value") := by
  refine okHot T.F_InvalidText_init sc_InvalidText_init (fun vs H Q E h => ?_) (fun cdv A outer s H vs Q E p h => ?_)
  · obtain ⟨a, v, rfl, _⟩ := h
    rfl
  · obtain ⟨a, v, rfl, x, n, ha, k⟩ := h
    exact ⟨_, (pss_one (ps_ost (pv 0) (pv 1))), _, rfl, _, rfl, a, T.C_InvalidText, rfl, x, n, .inl ⟨ha, k⟩⟩
theorem ok_parsed_catalog (T : Txt K mg base) : FnOk P w K mg base (L2N.CX P w) 11 T.f_parsed_catalog T.fd_parsed_catalog ["text"] (sp_parsedC K T.C_Catalog (C5 T) T.C_InvalidText T.pt_all_stretches) := by
  refine okXN T.F_parsed_catalog sc_parsed_catalog (fun vs H Q E h => ?_) (fun cdv A outer s H vs Q E hr h => ?_)
  · obtain ⟨t, rfl, _⟩ := h
    rfl
  · obtain ⟨t, rfl, ht, hsp, hT, kx, k⟩ := h
    refine ⟨_, (pss_cons (ps_if (pt_cmpR op_eq (pv 0) pe_str (nomark _)) (pss_one (ps_ret (pe_make0 T.mk_Catalog (ok_Catalog_init T) hr rfl T.g_Catalog T.bd_Catalog_init_1 T.vd_Catalog_init_1 (passCN (L2N.takes_of rfl rfl rfl rfl))))) pss_nil)
        (pss_cons (ps_set (i := 1) sc_parsed_catalog.nd rfl (Or.inl rfl) pe_dnewK)
        (pss_cons (ps_set (i := 2) sc_parsed_catalog.nd rfl (Or.inl rfl) pe_non)
        (pss_cons (ps_for (passes_of rfl) rfl (pi_list (pe_split (pv 0) pe_str)) (pg_name (i := 3) sc_parsed_catalog.nd rfl (Or.inl rfl))
          (pss_cons (ps_asg (pe_partition (pv 3) pe_str) (pg_tup rfl (pgs_cons (pg_name (i := 4) sc_parsed_catalog.nd rfl (Or.inl rfl)) (pgs_cons (pg_name (i := 5) sc_parsed_catalog.nd rfl (Or.inl rfl)) (pgs_cons (pg_name (i := 6) sc_parsed_catalog.nd rfl (Or.inl rfl)) pgs_nil)))))
        (pss_one (ps_if (PW.pt (pw_and (pt_cmpR op_eq (pv 4) pe_str (nomark _)) (pw_and1 (pt_val (pe_call (ok_is_name T) (hr.mono (by decide)) rfl T.m_is_name T.F_is_name.kp T.b_is_name .nil pass0 (pa_cons (pv 6) pa_nil)))))) (pss_one (ps_set (i := 2) sc_parsed_catalog.nd rfl (Or.inl rfl) (pv 6))) (pss_one (ps_dput (hu_of hr) (pv 1) (pv 4) (pe_call (ok_read_span T) (hr.mono (by decide)) rfl T.m_read_span T.F_read_span.kp T.b_read_span .nil (passCN (L2N.takes_of rfl rfl rfl rfl)) (pa_cons (pv 6) pa_nil)) rfl))))))
        (pss_one (ps_ret (pe_makeKS T.mk_Catalog (ok_Catalog_init T) hr rfl T.g_Catalog T.kb_Catalog_init_2_rest (passAt_of (passCN (L2N.takes_of rfl rfl rfl rfl))) (pa_cons (pv 1) pa_nil) (pk_cons (pv 2) pk_nil)))))))), ?_⟩
    have hz : t.length ≤ 1000 := ht.1
    refine ⟨_, rfl, rfl, _, rfl, ?_⟩
    rw [dec_str]
    cases e1 : t == ("empty" : Str) with
    | true =>
      have ep : progC t = some ([], none) := by
        unfold progC
        rw [e1, if_pos rfl]
      refine iteT fun x dx hx hdx ne => ?_
      have sm : Same H (upd (upd H dx (.own x)) x (.ins T.C_Catalog dx [])) := fun b u e => by
        rw [upd_ne (ne_of_none e hx), upd_ne (ne_of_none e hdx)]
        exact e
      refine ⟨x, dx, .non, .non, .none, none, rfl, upd_same, .non, .dat .non (by decide) fun s e => (by cases e), hT.ext sm, fun q er => ?_, fun er H2 ex hT2 hcn _ => ⟨rfl, ?_⟩⟩
      · have er : catR [] .non (some .none) = some q := er
        rw [catR_nil] at er
        cases er
      · exact k x [] none H2 ep (pv_of (rs := []) (rt := none) .nil (fun r hr => by cases hr) (fun s e => by cases e) catF_nil) (fun b o _ e t => ex b o (by simpa using ne_of_none e hx) (sm _ _ e) t) hT2 (hcn.back sm)
    | false =>
      have ep : progC t = foldI itemP (Txt.split t "; ") ([], none) := by
        unfold progC
        rw [e1, if_neg Bool.false_ne_true]
      refine iteF fun d hd => ?_
      have s1 := same_new (o := .dK []) hd
      have hd1 : (upd H d (.dK [])) d = some (.dK []) := upd_same
      generalize upd H d (.dK []) = H1 at s1 hd1
      refine ⟨_, rfl, ⟨t, rfl⟩, t, "; ", rfl, rfl, by decide +kernel, Nat.le_trans (Nat.add_le_add_right hz 2) (by show 1002 ≤ sizeLine; decide), fun wl hwl => ?_⟩
      have s2 := same_new (o := .lst ((Txt.split t "; ").map V.str)) hwl
      have hw2 : (upd H1 wl (.lst ((Txt.split t "; ").map V.str))) wl = some (.lst ((Txt.split t "; ").map V.str)) := upd_same
      have hd2 := s2 _ _ hd1
      have s12 := s1.trans s2
      generalize upd H1 wl (.lst ((Txt.split t "; ").map V.str)) = H2 at s2 hw2 hd2 s12
      have nwd : wl ≠ d := ne_of hw2 hd2 (by intro z; cases z)
      refine ⟨wl, rfl, ⟨_, SqL.of hw2⟩, for_list (K := K) (a := wl) (xs := (Txt.split t "; ").map V.str) (fun i σ H' => ∃ (rs : List Row) (rt : Option Str) (v3 v4 v5 v6 : Option V), σ = [some (.str t), some (.ref d), some (rvO rt), v3, v4, v5, v6] ∧ SX [d] H2 H' ∧ H' d = some (.dK (rs.map rKV)) ∧ foldI itemP ((Txt.split t "; ").drop i) (rs.map nsr, rt) = foldI itemP (Txt.split t "; ") ([], none) ∧ (∀ r ∈ rs, H' r.2.1 = some (.tup (spV r.2.2)) ∧ (okS r.2.2 = true ∧ smO r.2.2.1 ∧ smO r.2.2.2) ∧ tOkC r.1) ∧ (∀ s, rt = some s → nameS s = true) ∧ (rs.map (·.1)).Nodup ∧ rs.length ≤ i)
        ⟨[], none, none, none, none, none, rfl, fun b o _ e => e, hd2, rfl, fun r hr => (by cases hr), fun s e => (by cases e), .nil, Nat.le_refl _⟩ (fun i σ H' _ ⟨_, _, _, _, _, _, _, sx, _⟩ => SqL.of (sx _ _ (by simpa using nwd) hw2)) ?_ ?_⟩
      · rintro i y σ H3 hy ⟨rs, rt, v3, v4, v5, v6, rfl, sx, hd3, hf, hrs, hrt, hnd, hlen⟩
        rw [List.getElem?_map] at hy
        obtain ⟨w0, hw0, rfl⟩ := Option.map_eq_some_iff.mp hy
        have hwk := split_okC ht (List.mem_of_getElem? hw0)
        have hil : i < (Txt.split t "; ").length := (List.getElem?_eq_some_iff.mp hw0).1
        have hpk := part_okC hwk
        refine ⟨_, rfl, ⟨w0, rfl⟩, w0, " ", rfl, rfl, by decide +kernel, Nat.le_trans hwk.1 (by decide), fun tp htp => ?_⟩
        have hstep : foldI itemP ((Txt.split t "; ").drop i) (rs.map nsr, rt) = (itemP (rs.map nsr, rt) w0).bind (foldI itemP ((Txt.split t "; ").drop (i + 1))) := by
          rw [List.drop_eq_getElem_cons hil, (List.getElem?_eq_some_iff.mp hw0).2]
          rfl
        rw [hstep, itemP_eq] at hf
        obtain ⟨hpk1, hpk2⟩ := hpk
        generalize (Txt.partition w0 " ").1 = nm at hf hpk1 ⊢
        generalize (Txt.partition w0 " ").2.1 = dt at hf ⊢
        generalize (Txt.partition w0 " ").2.2 = tl at hf hpk2 ⊢
        have s4 := same_new (o := .tup [.str nm, .str dt, .str tl]) htp
        have htp4 : (upd H3 tp (.tup [.str nm, .str dt, .str tl])) tp = some (.tup [.str nm, .str dt, .str tl]) := upd_same
        generalize upd H3 tp (.tup [.str nm, .str dt, .str tl]) = H4 at s4 htp4 ⊢
        have hd4 := s4 _ _ hd3
        have sx4 : SX [d] H2 H4 := sx.trans (.of s4)
        have hrs4 : ∀ r ∈ rs, H4 r.2.1 = some (.tup (spV r.2.2)) ∧ (okS r.2.2 = true ∧ smO r.2.2.1 ∧ smO r.2.2.2) ∧ tOkC r.1 := fun r hr' => ⟨s4 _ _ (hrs r hr').1, (hrs r hr').2⟩
        clear s4 sx hd3 hrs htp
        have sH4 : Same H H4 := fun b u e => sx4 _ _ (by simpa using ne_of_none e hd) (s12 _ _ e)
        refine ⟨tp, _, rfl, SqT.of htp4, rfl, _, _, rfl, _, _, rfl, _, _, rfl, rfl, ?_⟩
        have put : (decide (nm = "rest") && nameS tl) = false → ∀ H5, Same H4 H5 → sDPut (tVar 1) (tVar 4) (tCall (sp_read_span K T.C_InvalidText) [] E (tCons (tVar 6) tNil)) { nx := fun σ H' => ∃ (rs : List Row) (rt : Option Str) (v3 v4 v5 v6 : Option V), σ = [some (.str t), some (.ref d), some (rvO rt), v3, v4, v5, v6] ∧ SX [d] H2 H' ∧ H' d = some (.dK (rs.map rKV)) ∧ foldI itemP ((Txt.split t "; ").drop (i + 1)) (rs.map nsr, rt) = foldI itemP (Txt.split t "; ") ([], none) ∧ (∀ r ∈ rs, H' r.2.1 = some (.tup (spV r.2.2)) ∧ (okS r.2.2 = true ∧ smO r.2.2.1 ∧ smO r.2.2.2) ∧ tOkC r.1) ∧ (∀ s, rt = some s → nameS s = true) ∧ (rs.map (·.1)).Nodup ∧ rs.length ≤ i + 1, rt := fun v H' => Q v H' } [some (.str t), some (.ref d), some (rvO rt), some (.str w0), some (.str nm), some (.str dt), some (.str tl)] H5 := fun hc H5 s5 => by
          rw [hc, if_neg Bool.false_ne_true] at hf
          refine ⟨_, rfl, .str tl, some (.str tl), rfl, tOkC_vd hpk2, fun e => ?_, fun sp es a H6 s6 ha0 ha => ?_⟩
          · have e : rdO tl = none := e
            rw [e] at hf
            have hl : lawC t = none := by
              cases q : lawC t with
              | none => rfl
              | some q' =>
                have := law_prog (L := q'.1) (r := q'.2) q
                rw [ep, ← hf] at this
                cases this
            exact ((kx hl).1 _).back (sH4.trans s5)
          · have es : rdO tl = some sp := es
            rw [es] at hf
            have hf : foldI itemP ((Txt.split t "; ").drop (i + 1)) (putN (rs.map nsr) nm sp, rt) = foldI itemP (Txt.split t "; ") ([], none) := hf
            have s56 := s5.trans s6
            have hd6 := s56 _ _ hd4
            have nad : a ≠ d := ne_of ha hd6 (by intro z; cases z)
            refine ⟨_, rfl, _, rfl, d, _, rfl, DPut.k (k := .inr nm) hd6 (Nat.lt_of_le_of_lt (by rw [List.length_map]; exact Nat.le_trans hlen (Nat.le_trans (Nat.le_of_lt hil) hsp)) (by decide : 60 < sizeLine)), ?_⟩
            refine ⟨putRow rs nm a sp, rt, _, _, _, _, rfl, fun b u nb e => ?_, ?_, ?_, fun r hr' => ?_, hrt, putRow_nd hnd nm a sp, Nat.le_trans (putRow_len rs nm a sp) (Nat.succ_le_succ hlen)⟩
            · rw [upd_ne (by simpa using nb)]
              exact s56 _ _ (sx4 _ _ nb e)
            · rw [putRow_kv]
              exact upd_same
            · rw [putRow_nsr]
              exact hf
            · rcases putRow_mem hr' with rfl | hr'
              · exact ⟨by rw [upd_ne nad]; exact ha, (rdO_text es).2, hpk1⟩
              · obtain ⟨q1, q2, q3⟩ := hrs4 r hr'
                have q1 := s56 _ _ q1
                exact ⟨by rw [upd_ne (ne_of q1 hd6 (by intro z; cases z))]; exact q1, q2, q3⟩
        refine ⟨_, rfl, rfl, _, rfl, ?_⟩
        rw [dec_str, show (nm == ("rest" : Str)) = decide (nm = "rest") by rw [Bool.eq_iff_iff, beq_iff_eq, decide_eq_true_iff]]
        cases ec : decide (nm = "rest") with
        | false =>
          exact iteF (iteF (put (by rw [ec]; rfl) H4 (Same.refl _)))
        | true =>
          refine iteT ⟨_, rfl, .str tl, some (.str tl), rfl, tOkC_vd hpk2, fun H5 s5 => ⟨_, rfl, ?_⟩⟩
          show if nameS tl = true then _ else _
          cases en : nameS tl with
          | false => exact iteF (put (by rw [ec, en]; rfl) H5 s5)
          | true =>
            rw [ec, en, Bool.and_self, if_pos rfl] at hf
            refine iteT ⟨_, rfl, rs, some tl, _, _, _, _, rfl, sx4.trans (.of s5), s5 _ _ hd4, hf, fun r hr' => ⟨s5 _ _ (hrs4 r hr').1, (hrs4 r hr').2⟩, fun s e => (by cases e; exact en), hnd, Nat.le_succ_of_le hlen⟩
      · rintro σ H3 ⟨rs, rt, v3, v4, v5, v6, rfl, sx, hd3, hf, hrs, hrt, hnd, hlen⟩
        rw [List.length_map] at hlen hf
        have hep : progC t = some (rs.map nsr, rt) := by
          rw [ep, ← hf, List.drop_of_length_le (Nat.le_refl _)]
          rfl
        have sH3 : Same H H3 := fun b u e => sx _ _ (by simpa using ne_of_none e hd) (s12 _ _ e)
        refine ⟨_, rfl, _, rfl, rfl, rfl, fun x dx hx hdx ne => ?_⟩
        have sM : Same H3 (upd (upd H3 dx (.own x)) x (.ins T.C_Catalog dx [])) := fun b u e => by
          rw [upd_ne (ne_of_none e hx), upd_ne (ne_of_none e hdx)]
          exact e
        have sA := sH3.trans sM
        have hxH : H x = none := sH3.free hx
        refine ⟨x, dx, .ref d, rvO rt, rtD rt, some (some (d, rs.map rE)), rfl, upd_same, .some (.dict (by rw [map_rKV]; exact sM _ _ hd3) (fun e he => ?_) (rows_nodK hnd) (by rw [List.length_map]; omega)) rfl, vd_rtD hrt, hT.ext sA, fun q er => ?_, fun er H' ex hT' hcn hrv => ⟨rfl, ?_⟩⟩
        · obtain ⟨r, hr', rfl⟩ := List.mem_map.mp he
          obtain ⟨q1, _, q3⟩ := hrs r hr'
          exact ⟨vd_sp (.of (sM _ _ q1)), q3⟩
        · have hl : lawC t = none := by
            cases q' : lawC t with
            | none => rfl
            | some z =>
              have := law_makes q' hep
              have er : catF (rs.map rE) (rvO rt) (some (rtD rt)) = some q := er
              rw [this] at er
              cases er
          refine RzX.fresh sA (fun b hb => ?_) ((kx hl).2 q ?_)
          · rcases List.mem_cons.mp hb with rfl | hb
            · exact hxH
            · have hb : b ∈ (if (rsF (rs.map rE)).isSome = true then [d] else []) := hb
              split at hb
              · rw [List.mem_singleton.mp hb]
                exact hd
              · cases hb
          · obtain ⟨n, w⟩ := q
            rcases caR_le er with e | e | e | e | e | e <;> (show n ≤ 5; omega)
        · have er : catF (rs.map rE) (rvO rt) (some (rtD rt)) = none := er
          have hcr : caRows (some (some (d, rs.map rE))) = rs := rowsE_rows _
          rw [hcr, rtO_rtD] at hcn
          exact k x rs rt H' hep (pv_of hnd (fun r hr' => (hrs r hr').2.1) hrt er) (fun b o _ e t => ex b o (by simpa using ne_of_none e hxH) (sA _ _ e) t) hT' (hcn.back sA)
theorem ok_read_catalog (T : Txt K mg base) : FnOk P w K mg base (L2.CX P w) 12 T.f_read_catalog T.fd_read_catalog ["text"] (sp_readC K T.C_Catalog T.C_InvalidText T.pt_all_stretches) := by
  refine T.F_read_catalog.okX sc_read_catalog (fun vs H Q E h => ?_) (fun cdv A outer s H vs Q E hr h => ?_)
  · obtain ⟨v, o, rfl, _⟩ := h
    rfl
  · obtain ⟨v, o, rfl, hv, hT, hok, k2, k1⟩ := h
    refine ⟨_, (pss_cons (ps_if (pt_not (pt_val (pe_callB (id := "isinstance") call_isi (by rfl) T.z_isinstance (by decide +kernel) (pa_cons (pv 0) (pa_cons (pe_bltn (v := .ty "str") (u := .type "str") (by rfl) T.z_str (by decide +kernel) rfl) pa_nil))))) (pss_one (ps_raise rfl (takes_of rfl rfl rfl rfl) (pmk_oex T.x_InvalidText T.i_InvalidText T.t_InvalidText (ok_InvalidText_init T) (hr.mono (by decide)) T.b_InvalidText_init .nil pass0 rfl T.g_InvalidText (pa_cons (pv 0) pa_nil)))) pss_nil)
        (pss_cons (L2H.ps_try_onlyX rfl rfl ⟨rfl, by decide, Or.inl T.g_PartsError⟩ (fun _ => PySem.PassesOwnAt.leaving) (takes_of rfl rfl rfl rfl) (fun W pn xe tk _ _ => by exact (pss_one (ps_set (i := 1) sc_read_catalog.nd rfl (Or.inl rfl) (pe_callS (ok_parsed_catalog T) hr rfl T.m_parsed_catalog T.F_parsed_catalog.kp T.b_parsed_catalog (fun σ => passAtN tk σ) (pa_cons (pv 0) pa_nil)))))
          (fun a oe cls d pn _ _ wt hot => by exact (pss_one (L2H.ps_raiseHN hot wt (L2H.pmk5_oexH T.x_InvalidText T.i_InvalidText T.t_InvalidText (ok_hot_InvalidText_init T) (L2H.roomH_mark (hr.mono (by decide)) _) hot T.b_InvalidText_init pass0 rfl T.g_InvalidText (pa_cons (pv 0) pa_nil))))))
        (pss_cons (ps_if (pt_cmpR op_ne (pe_callTy (T := "str") (call_strI (ok_Catalog_str T) (hr.mono (by decide)) T.b_Catalog_str T.me_Catalog_str.at_ T.me_Catalog_str.fn pass0) (by rfl) T.z_str (by decide +kernel) (pa_cons (pv 1) pa_nil)) (pv 0) (nomark _)) (pss_one (ps_raise rfl (takes_of rfl rfl rfl rfl) (pmk_oex T.x_InvalidText T.i_InvalidText T.t_InvalidText (ok_InvalidText_init T) (hr.mono (by decide)) T.b_InvalidText_init .nil pass0 rfl T.g_InvalidText (pa_cons (pv 0) pa_nil)))) pss_nil)
        (pss_one (ps_ret (pv 1)))))), ?_⟩
    have ic := T.ic_Catalog
    have e6 : ∀ n : Nat, PySem.W.exmOne K (.ref (C5 T n)) (.ref T.C_PartsError) = some true := fun n => match n with
      | 0 => T.e_InvalidSpans_PartsError
      | 1 => T.e_InvalidName_PartsError
      | 2 => T.e_InvalidSpan_PartsError
      | 3 => T.e_Overlap_PartsError
      | 4 => T.e_NameTaken_PartsError
      | _ + 5 => T.e_TooMany_PartsError
    have kr : (∀ t, o = some (.str t) → lawC t = none) → Rz H E T.C_InvalidText "value" v := fun z => (k2 z).rz (.same (Same.refl H)) hT
    rcases hv with hv | ⟨rfl, a, dx, fs, rfl, ha⟩
    · refine ⟨_, rfl, _, _, _, _, _, rfl, .ty _, hv.ty, kit_o o (.inr (.inr (.inl rfl))), _, rfl, ?_⟩
      cases e : isT "str" o with
      | false => exact iteT ⟨_, rfl, raise_x T.x_InvalidText T.n_InvalidText (kr fun t z => by rw [z] at e; cases e)⟩
      | true =>
        obtain ⟨t, rfl, rfl, _, _⟩ := hv.str_of e
        obtain ⟨ht, hsp⟩ := hok t rfl
        refine iteF ⟨_, rfl, t, rfl, ht, hsp, hT, fun non => ?_, fun x rs rt H1 ep v1 ex hT1 hcn => ?_⟩
        · have k3 := kr fun t' z => by
            injection z with z
            injection z with z
            rw [← z]
            exact non
          refine ⟨fun w d H' nd hd sm => ?_, fun q hq d H' nd hd sm => ?_⟩
          · exact ⟨true, T.e_InvalidText_PartsError, fun _ a ha => ⟨_, rfl, raise_x T.x_InvalidText T.n_InvalidText (k3.back sm)⟩, fun z => nomatch z⟩
          · exact ⟨true, e6 q.1, fun _ a ha => ⟨_, rfl, raise_x T.x_InvalidText T.n_InvalidText (k3.back fun b o e => sm b o List.not_mem_nil e)⟩, fun z => nomatch z⟩
        · have st := hcn.at_
          obtain ⟨dx, _, _, _, _, hx, _⟩ := id st
          have hl8 := v1.len
          refine ⟨_, rfl, x, dx, _, rfl, hx, x, rs, rt, rfl, st, v1.nd, by omega, v1.sm, fun s e => (v1.vn.rt s e).1, fun H2 t2 et s2 => ⟨_, rfl, _, rfl, rfl, _, rfl, ?_⟩⟩
          by_cases c : catS rs rt = t
          · have hl := law_rows (t := t) v1 (catS_N.symm.trans c)
            exact iteFe (by rw [et, c]; simp) ⟨_, rfl, k1 t x rs rt _ rfl hl v1 c (ex.trans (.same s2)) (hT1.ext s2) (st.mono s2)⟩
          · have k3 := (k2 fun t' z => by
              injection z with z
              injection z with z
              rw [← z]
              cases q : lawC t with
              | none => rfl
              | some q' => exact absurd (by rw [catS_N]; exact law_same q ep v1) c).rz (ex.trans (.same s2)) (hT1.ext s2)
            exact iteTe (by rw [et, decide_eq_false fun z => c (by injection z)]; rfl) ⟨_, rfl, raise_x T.x_InvalidText T.n_InvalidText k3⟩
    · exact ⟨_, rfl, _, _, _, _, _, rfl, .ty _, .base (.ins ha ic.cl ic.ha ic.hn ic.htk ic.hm), T.io_own_Catalog_str, _, rfl, iteT ⟨_, rfl, raise_x T.x_InvalidText T.n_InvalidText (kr fun t z => nomatch z)⟩⟩
theorem ok_law_is_name (T : Txt K mg base) : FnOk P w K mg base CX0 1 T.f_law_is_name T.fd_law_is_name ["_law_word"] (sp_lisname K) := by
  refine T.F_law_is_name.ok sc_law_is_name (fun vs H Q E h => ?_) (fun cdv A outer s H vs Q E hr h => ?_)
  · obtain ⟨t, rfl, _⟩ := h
    rfl
  · obtain ⟨t, rfl, ht, k⟩ := h
    refine ⟨_, (pss_cons (ps_if (PW.pt (pw_or (pt_cmpR op_eq (pv 0) pe_str (nomark _)) (pw_or (pt_cmpR op_lt (pe_callB (id := "len") call_len_str (by rfl) T.z_len (by decide +kernel) (pa_cons (pv 0) pa_nil)) pe_int (nomark _)) (pw_or1 (pt_cmpR op_gt (pe_callB (id := "len") call_len_str (by rfl) T.z_len (by decide +kernel) (pa_cons (pv 0) pa_nil)) pe_int (nomark _)))))) (pss_one (ps_ret pe_bl)) pss_nil)
        (pss_one (ps_ret (pe_cmpR (op_eqD hr.units) (pe_lc (own := [("_law_sign", 1)]) (g := gName 1) rfl sc_law_is_name.nd (pi_str (pv 0)) (blkOk_by (own := [("_law_sign", 1)]) (N := ["_law_word", "_law_sign"]) (sc := defScope s_law_is_name) (by decide +kernel)) (fun _ _ _ _ _ => (pg_name (i := 1) sc_law_is_name.nd rfl (Or.inl rfl))) (fun _ _ _ _ _ => (pts_one (pt_cmpR op_notIn_sign (pv 1) pe_str (by rfl)))) (fun _ _ _ _ _ => (pv 1))) (pe_lst pa_nil) (nomark _))))), ?_⟩
    obtain ⟨hs, hok⟩ := ht
    have hz : t.length ≤ sizeLine := Nat.le_trans hs (by decide)
    refine ⟨_, rfl, rfl, _, rfl, ?_⟩
    unfold nameS at k
    rw [dec_str]
    cases e1 : t == ("table" : Str) with
    | true =>
      rw [e1] at k
      exact iteT (iteT (k H (Same.refl H)))
    | false =>
      rw [e1] at k
      refine iteF ⟨_, rfl, _, rfl, hz, _, _, rfl, rfl, _, rfl, ?_⟩
      by_cases e2 : (1 : Int) ≤ t.length
      · have e2' : decide ((t.length : Int) < 1) = false := decide_eq_false (by omega)
        rw [decide_eq_true e2] at k
        rw [e2']
        refine iteF ⟨_, rfl, _, rfl, hz, _, _, rfl, rfl, _, rfl, ?_⟩
        by_cases e3 : (t.length : Int) ≤ 8
        · have e3' : decide ((8 : Int) < t.length) = false := decide_eq_false (by omega)
          rw [decide_eq_true e3] at k
          rw [e3']
          refine iteF ⟨_, rfl, _, rfl, fun D hD => ?_⟩
          refine lc_acc walk_str hD (fun _ _ => trivial) (fun i => ((t.cps.toList.take i).filter fun c => !okSign c).map fun c => V.str ⟨#[c]⟩) rfl (fun i hi => ?_) ?_ ?_
          · rw [List.length_map]
            have h1 := List.length_filter_le (fun c => !okSign c) (t.cps.toList.take i)
            rw [List.length_take] at h1
            have : t.cps.size ≤ 1000 := hs
            exact Nat.lt_of_le_of_lt h1 (Nat.lt_of_le_of_lt (Nat.min_le_left _ _) (Nat.lt_of_lt_of_le hi (Nat.le_trans this (by decide))))
          · rintro i x H2 hi ⟨c, hc, rfl⟩ s1 R S r1 r2
            have hc' : t.cps.toList[i]? = some c := by rw [Array.getElem?_toList]; exact hc
            refine ⟨rfl, _, rfl, c, _, rfl, rfl, _, rfl, ?_⟩
            rw [← okSign_is]
            cases e4 : okSign c with
            | true =>
              refine iteF (r2 _ ?_ (Same.refl _))
              rw [List.take_add_one, hc']
              simp [e4]
            | false =>
              refine iteT ⟨_, rfl, r1 _ _ ?_ (Same.refl _)⟩
              rw [List.take_add_one, hc']
              simp [e4]
          · intro H2 s1 hl
            have htk : t.cps.toList.take t.cps.size = t.cps.toList := by rw [← Array.length_toList, List.take_length]
            rw [htk] at hl
            refine ⟨Nat.zero_le _, fun q hq => ?_⟩
            have s2 : Same H2 (upd H2 q (.lst [])) := fun b o eb => by
              rw [upd_ne (ne_of_none eb hq)]
              exact eb
            have hq2 : Dp K (upd H2 q (.lst [])) (.ref q) (.list []) := .lst (SqL.of upd_same) .nil
            have hl2 : Dp K (upd H2 q (.lst [])) (.ref D) (.list ((t.cps.toList.filter fun c => !okSign c).map fun c => PyData.str ⟨#[c]⟩)) := by
              refine .lst (SqL.of (s2 _ _ hl)) ?_
              have := dpAll_strs (K := K) (H := upd H2 q (.lst [])) ((t.cps.toList.filter fun c => !okSign c).map fun c => (⟨#[c]⟩ : Str))
              rw [List.map_map, List.map_map] at this
              exact this
            refine ⟨_, _, hl2, hq2, shaped_list (n := 1) (by decide) (fun d hd => ?_), shaped_nil, ?_⟩
            · obtain ⟨c, hc, rfl⟩ := List.mem_map.mp hd
              refine ⟨?_, by simp [PyData.depth]⟩
              simp only [PyData.canLay0]
              exact strOk_sign (strOk_mem hok (List.mem_filter.mp hc).1)
            · rw [eqv_nil]
              have ee : (((t.cps.toList.filter fun c => !okSign c).map fun c => PyData.str ⟨#[c]⟩).isEmpty) = t.cps.toList.all okSign := by
                rw [List.isEmpty_map]
                generalize t.cps.toList = l
                induction l with
                | nil => rfl
                | cons a r ih => cases h : okSign a <;> simp [h, ih]
              rw [ee]
              exact k _ (s1.trans s2)
        · have e3' : decide ((8 : Int) < t.length) = true := decide_eq_true (by omega)
          rw [decide_eq_false e3] at k
          rw [e3']
          exact iteT (k H (Same.refl H))
      · have e2' : decide ((t.length : Int) < 1) = true := decide_eq_true (by omega)
        rw [decide_eq_false e2] at k
        rw [e2']
        exact iteT (iteT (k H (Same.refl H)))
theorem ok_law_number (T : Txt K mg base) : FnOk P w K mg base CX0 1 T.f_law_number T.fd_law_number ["_law_word"] (sp_law_number K) := by
  refine T.F_law_number.ok sc_law_number (fun vs H Q E h => ?_) (fun cdv A outer s H vs Q E hr h => ?_)
  · obtain ⟨w, rfl, _⟩ := h
    rfl
  · obtain ⟨w, rfl, hw, ho, k⟩ := h
    have hz : w.length ≤ sizeLine := Nat.le_trans hw (by decide)
    refine ⟨_, (pss_cons (ps_set (i := 1) sc_law_number.nd rfl (Or.inl rfl) (pe_ifExp (pt_cmpR op_eq (pe_slice sl_str (pv 0) po_none (po_some pe_int)) pe_str (nomark _)) (pe_slice sl_str (pv 0) (po_some pe_int) po_none) (pv 0)))
        (pss_cons (ps_if (PW.pt (pw_or (pt_cmpR op_eq (pv 1) pe_str (nomark _)) (pw_or (pt_cmpR op_gt (pe_callB (id := "len") call_len_str (by rfl) T.z_len (by decide +kernel) (pa_cons (pv 1) pa_nil)) pe_int (nomark _)) (pw_or1 (pt_cmpR (op_neD hr.units) (pe_lc (own := [("_law_sign", 2)]) (g := gName 2) rfl sc_law_number.nd (pi_str (pv 1)) (blkOk_by (own := [("_law_sign", 2)]) (N := ["_law_word", "_law_digits", "_law_sign"]) (sc := defScope s_law_number) (by decide +kernel)) (fun _ _ _ _ _ => (pg_name (i := 2) sc_law_number.nd rfl (Or.inl rfl))) (fun _ _ _ _ _ => (pts_one (pt_cmpR op_notIn_sign (pv 2) pe_str (by rfl)))) (fun _ _ _ _ _ => (pv 2))) (pe_lst pa_nil) (nomark _)))))) (pss_one (ps_ret pe_non)) pss_nil)
        (pss_cons (ps_if (PW.pt (pw_and (pt_cmpR op_eq (pe_ix ix_str (pv 1) pe_int (fun _ _ => rfl)) pe_str (nomark _)) (pw_and1 (pt_cmpR op_ne (pv 0) pe_str (nomark _))))) (pss_one (ps_ret pe_non)) pss_nil)
        (pss_one (ps_ret (pe_callTy (T := "int") call_int_str (by rfl) T.z_int (by decide +kernel) (pa_cons (pv 0) pa_nil))))))), ?_⟩
    have k : ∀ H', Same H H' → Q (limV (if (digOk (sgn (tl w)).2 && !zeroed (tl w)) = true then some (worth (tl w)) else none)) H' := k
    refine ⟨_, rfl, _, rfl, _, rfl, hz, rfl, _, rfl, ?_⟩
    rw [dec_str, minus_is]
    cases es : (sgn (tl w)).1 with
    | true =>
      have ed : tl (cutS w (some (1 : Int)) none) = (sgn (tl w)).2 := cut1_tl w es
      have hxl : (cutS w (some (1 : Int)) none).length ≤ 1000 := Nat.le_trans (cutS_length _ _ _) hw
      have hxz : (cutS w (some (1 : Int)) none).length ≤ sizeLine := Nat.le_trans hxl (by decide)
      have hxo : PyData.strOk (cutS w (some (1 : Int)) none) = true := (sOk.cut ⟨hw, ho⟩ _ _).2
      refine iteT ⟨_, rfl, _, rfl, _, rfl, hz, ?_⟩
      generalize cutS w (some (1 : Int)) none = x at ed hxl hxz hxo ⊢
      refine ⟨_, rfl, rfl, _, rfl, ?_⟩
      rw [dec_str, str_nil]
      cases c0 : (tl x).isEmpty with
      | true =>
        have hd : digOk (sgn (tl w)).2 = false := by
          rw [← ed]
          cases h : tl x with
          | nil => rfl
          | cons a r => rw [h] at c0; cases c0
        rw [hd] at k
        exact iteT (iteT (k H (Same.refl H)))
      | false =>
        have hlen : x.length = (sgn (tl w)).2.length := by
          rw [← ed]
          exact TL.len_tl _
        have h1 : decide (1 ≤ (sgn (tl w)).2.length) = true := by
          rw [← ed]
          cases h : tl x with
          | nil => rw [h] at c0; cases c0
          | cons a r => exact decide_eq_true (by simp)
        refine iteF ⟨_, rfl, _, rfl, hxz, _, _, rfl, rfl, _, rfl, ?_⟩
        cases c1 : decide ((30 : Int) < x.length) with
        | true =>
          have hd : digOk (sgn (tl w)).2 = false := by
            unfold digOk
            have : decide ((sgn (tl w)).2.length ≤ 30) = false := decide_eq_false fun q => absurd (of_decide_eq_true c1) (by omega)
            rw [this]
            cases decide (1 ≤ (sgn (tl w)).2.length) <;> rfl
          rw [hd] at k
          exact iteT (iteT (k H (Same.refl H)))
        | false =>
          have h2 : decide ((sgn (tl w)).2.length ≤ 30) = true := decide_eq_true (by have := of_decide_eq_false c1; omega)
          have hd : digOk (sgn (tl w)).2 = x.cps.toList.all isDig := by
            have e3 : x.cps.toList = (sgn (tl w)).2 := ed
            unfold digOk
            rw [e3, h1, h2]
            rfl
          refine iteF ⟨_, rfl, _, rfl, fun D hD => ?_⟩
          refine lc_acc walk_str hD (fun _ _ => trivial) (fun i => ((x.cps.toList.take i).filter fun c => !isDig c).map fun c => V.str ⟨#[c]⟩) rfl (fun i hi => ?_) ?_ ?_
          · rw [List.length_map]
            have h1 := List.length_filter_le (fun c => !isDig c) (x.cps.toList.take i)
            rw [List.length_take] at h1
            have : x.cps.size ≤ 1000 := hxl
            exact Nat.lt_of_le_of_lt h1 (Nat.lt_of_le_of_lt (Nat.min_le_left _ _) (Nat.lt_of_lt_of_le hi (Nat.le_trans this (by decide))))
          · rintro i y H2 hi ⟨c, hc, rfl⟩ s1 R S r1 r2
            have hc' : x.cps.toList[i]? = some c := by rw [Array.getElem?_toList]; exact hc
            refine ⟨rfl, _, rfl, c, _, rfl, rfl, _, rfl, ?_⟩
            rw [dig_in]
            cases e4 : isDig c with
            | true =>
              refine iteF (r2 _ ?_ (Same.refl _))
              rw [List.take_add_one, hc']
              simp [e4]
            | false =>
              refine iteT ⟨_, rfl, r1 _ _ ?_ (Same.refl _)⟩
              rw [List.take_add_one, hc']
              simp [e4]
          · intro H2 s1 hl
            have ht : x.cps.toList.take x.cps.size = x.cps.toList := by rw [← Array.length_toList, List.take_length]
            rw [ht] at hl
            refine ⟨Nat.zero_le _, fun q hq => ?_⟩
            have s2 := same_new (o := .lst []) hq
            have hq2 : Dp K (upd H2 q (.lst [])) (.ref q) (.list []) := .lst (SqL.of upd_same) .nil
            have hl2 : Dp K (upd H2 q (.lst [])) (.ref D) (.list ((x.cps.toList.filter fun c => !isDig c).map fun c => PyData.str ⟨#[c]⟩)) := by
              refine .lst (SqL.of (s2 _ _ hl)) ?_
              have := dpAll_strs (K := K) (H := upd H2 q (.lst [])) ((x.cps.toList.filter fun c => !isDig c).map fun c => (⟨#[c]⟩ : Str))
              rw [List.map_map, List.map_map] at this
              exact this
            refine ⟨_, _, hl2, hq2, shaped_list (n := 1) (by decide) (fun d hd => ?_), shaped_nil, ?_⟩
            · obtain ⟨c, hc, rfl⟩ := List.mem_map.mp hd
              refine ⟨?_, by simp [PyData.depth]⟩
              simp only [PyData.canLay0]
              exact strOk_sign (strOk_mem hxo (List.mem_filter.mp hc).1)
            · rw [eqv_nil]
              have ee : (((x.cps.toList.filter fun c => !isDig c).map fun c => PyData.str ⟨#[c]⟩).isEmpty) = x.cps.toList.all isDig := by
                rw [List.isEmpty_map]
                generalize x.cps.toList = l
                induction l with
                | nil => rfl
                | cons a r ih => cases h : isDig a <;> simp [h, ih]
              rw [ee]
              have sf := s1.trans s2
              refine ⟨_, rfl, ?_⟩
              cases e5 : x.cps.toList.all isDig with
              | false =>
                rw [hd, e5] at k
                exact iteT (k _ sf)
              | true =>
                rw [hd, e5] at k
                have hd2 : digOk (sgn (tl w)).2 = true := hd.trans e5
                refine iteF ?_
                cases hr0 : tl x with
                | nil => rw [hr0] at c0; cases c0
                | cons a r =>
                  have ha : atI x.cps.toList 0 = some a := by
                    have e3 : x.cps.toList = a :: r := hr0
                    rw [e3]
                    exact atI_nat (j := 0) rfl
                  refine ⟨_, rfl, _, 0, a, rfl, rfl, hxz, ha, rfl, _, rfl, ?_⟩
                  rw [dec_str, sign_is]
                  have hzz : zeroed (tl w) = ((a :: r).head? == some 48 && !(w == ("0" : Str))) := by rw [zeroed_is, ← ed, hr0]
                  rw [hzz] at k
                  cases ea : (some a == some 48) with
                  | false =>
                    have ea' : ((a :: r).head? == some 48) = false := ea
                    rw [ea'] at k
                    exact iteF (iteF ⟨_, rfl, w, _, rfl, int_of hd2, Nat.le_trans (digOk_len hd2) (by decide), k _ sf⟩)
                  | true =>
                    have ea' : ((a :: r).head? == some 48) = true := ea
                    rw [ea'] at k
                    refine iteT ⟨_, rfl, rfl, _, rfl, ?_⟩
                    rw [dec_str]
                    cases ew : (w == ("0" : Str)) with
                    | true =>
                      rw [ew] at k
                      exact iteF ⟨_, rfl, w, _, rfl, int_of hd2, Nat.le_trans (digOk_len hd2) (by decide), k _ sf⟩
                    | false =>
                      rw [ew] at k
                      exact iteT (k _ sf)
    | false =>
      have ed : tl w = (sgn (tl w)).2 := by
        rcases sgn_cases (tl w) with ⟨r, _, e2⟩ | ⟨_, e2⟩
        · rw [e2] at es
          cases es
        · rw [e2]
      have hxl := hw
      have hxz := hz
      have hxo := ho
      refine iteF ⟨_, rfl, ?_⟩
      refine ⟨_, rfl, rfl, _, rfl, ?_⟩
      rw [dec_str, str_nil]
      cases c0 : (tl w).isEmpty with
      | true =>
        have hd : digOk (sgn (tl w)).2 = false := by
          rw [← ed]
          cases h : tl w with
          | nil => rfl
          | cons a r => rw [h] at c0; cases c0
        rw [hd] at k
        exact iteT (iteT (k H (Same.refl H)))
      | false =>
        have hlen : w.length = (sgn (tl w)).2.length := by
          rw [← ed]
          exact TL.len_tl _
        have h1 : decide (1 ≤ (sgn (tl w)).2.length) = true := by
          rw [← ed]
          cases h : tl w with
          | nil => rw [h] at c0; cases c0
          | cons a r => exact decide_eq_true (by simp)
        refine iteF ⟨_, rfl, _, rfl, hxz, _, _, rfl, rfl, _, rfl, ?_⟩
        cases c1 : decide ((30 : Int) < w.length) with
        | true =>
          have hd : digOk (sgn (tl w)).2 = false := by
            unfold digOk
            have : decide ((sgn (tl w)).2.length ≤ 30) = false := decide_eq_false fun q => absurd (of_decide_eq_true c1) (by omega)
            rw [this]
            cases decide (1 ≤ (sgn (tl w)).2.length) <;> rfl
          rw [hd] at k
          exact iteT (iteT (k H (Same.refl H)))
        | false =>
          have h2 : decide ((sgn (tl w)).2.length ≤ 30) = true := decide_eq_true (by have := of_decide_eq_false c1; omega)
          have hd : digOk (sgn (tl w)).2 = w.cps.toList.all isDig := by
            have e3 : w.cps.toList = (sgn (tl w)).2 := ed
            unfold digOk
            rw [e3, h1, h2]
            rfl
          refine iteF ⟨_, rfl, _, rfl, fun D hD => ?_⟩
          refine lc_acc walk_str hD (fun _ _ => trivial) (fun i => ((w.cps.toList.take i).filter fun c => !isDig c).map fun c => V.str ⟨#[c]⟩) rfl (fun i hi => ?_) ?_ ?_
          · rw [List.length_map]
            have h1 := List.length_filter_le (fun c => !isDig c) (w.cps.toList.take i)
            rw [List.length_take] at h1
            have : w.cps.size ≤ 1000 := hxl
            exact Nat.lt_of_le_of_lt h1 (Nat.lt_of_le_of_lt (Nat.min_le_left _ _) (Nat.lt_of_lt_of_le hi (Nat.le_trans this (by decide))))
          · rintro i y H2 hi ⟨c, hc, rfl⟩ s1 R S r1 r2
            have hc' : w.cps.toList[i]? = some c := by rw [Array.getElem?_toList]; exact hc
            refine ⟨rfl, _, rfl, c, _, rfl, rfl, _, rfl, ?_⟩
            rw [dig_in]
            cases e4 : isDig c with
            | true =>
              refine iteF (r2 _ ?_ (Same.refl _))
              rw [List.take_add_one, hc']
              simp [e4]
            | false =>
              refine iteT ⟨_, rfl, r1 _ _ ?_ (Same.refl _)⟩
              rw [List.take_add_one, hc']
              simp [e4]
          · intro H2 s1 hl
            have ht : w.cps.toList.take w.cps.size = w.cps.toList := by rw [← Array.length_toList, List.take_length]
            rw [ht] at hl
            refine ⟨Nat.zero_le _, fun q hq => ?_⟩
            have s2 := same_new (o := .lst []) hq
            have hq2 : Dp K (upd H2 q (.lst [])) (.ref q) (.list []) := .lst (SqL.of upd_same) .nil
            have hl2 : Dp K (upd H2 q (.lst [])) (.ref D) (.list ((w.cps.toList.filter fun c => !isDig c).map fun c => PyData.str ⟨#[c]⟩)) := by
              refine .lst (SqL.of (s2 _ _ hl)) ?_
              have := dpAll_strs (K := K) (H := upd H2 q (.lst [])) ((w.cps.toList.filter fun c => !isDig c).map fun c => (⟨#[c]⟩ : Str))
              rw [List.map_map, List.map_map] at this
              exact this
            refine ⟨_, _, hl2, hq2, shaped_list (n := 1) (by decide) (fun d hd => ?_), shaped_nil, ?_⟩
            · obtain ⟨c, hc, rfl⟩ := List.mem_map.mp hd
              refine ⟨?_, by simp [PyData.depth]⟩
              simp only [PyData.canLay0]
              exact strOk_sign (strOk_mem hxo (List.mem_filter.mp hc).1)
            · rw [eqv_nil]
              have ee : (((w.cps.toList.filter fun c => !isDig c).map fun c => PyData.str ⟨#[c]⟩).isEmpty) = w.cps.toList.all isDig := by
                rw [List.isEmpty_map]
                generalize w.cps.toList = l
                induction l with
                | nil => rfl
                | cons a r ih => cases h : isDig a <;> simp [h, ih]
              rw [ee]
              have sf := s1.trans s2
              refine ⟨_, rfl, ?_⟩
              cases e5 : w.cps.toList.all isDig with
              | false =>
                rw [hd, e5] at k
                exact iteT (k _ sf)
              | true =>
                rw [hd, e5] at k
                have hd2 : digOk (sgn (tl w)).2 = true := hd.trans e5
                refine iteF ?_
                cases hr0 : tl w with
                | nil => rw [hr0] at c0; cases c0
                | cons a r =>
                  have ha : atI w.cps.toList 0 = some a := by
                    have e3 : w.cps.toList = a :: r := hr0
                    rw [e3]
                    exact atI_nat (j := 0) rfl
                  refine ⟨_, rfl, _, 0, a, rfl, rfl, hxz, ha, rfl, _, rfl, ?_⟩
                  rw [dec_str, sign_is]
                  have hzz : zeroed (tl w) = ((a :: r).head? == some 48 && !(w == ("0" : Str))) := by rw [zeroed_is, ← ed, hr0]
                  rw [hzz] at k
                  cases ea : (some a == some 48) with
                  | false =>
                    have ea' : ((a :: r).head? == some 48) = false := ea
                    rw [ea'] at k
                    exact iteF (iteF ⟨_, rfl, w, _, rfl, int_of hd2, Nat.le_trans (digOk_len hd2) (by decide), k _ sf⟩)
                  | true =>
                    have ea' : ((a :: r).head? == some 48) = true := ea
                    rw [ea'] at k
                    refine iteT ⟨_, rfl, rfl, _, rfl, ?_⟩
                    rw [dec_str]
                    cases ew : (w == ("0" : Str)) with
                    | true =>
                      rw [ew] at k
                      exact iteF ⟨_, rfl, w, _, rfl, int_of hd2, Nat.le_trans (digOk_len hd2) (by decide), k _ sf⟩
                    | false =>
                      rw [ew] at k
                      exact iteT (k _ sf)
theorem ok_law_span (T : Txt K mg base) : FnOk P w K mg base CX0 2 T.f_law_span T.fd_law_span ["_law_word"] (sp_lspan9 K) := by
  refine T.F_law_span.ok sc_law_span (fun vs H Q E h => ?_) (fun cdv A outer s H vs Q E hr h => ?_)
  · obtain ⟨x, rfl, _⟩ := h
    rfl
  · obtain ⟨x, rfl, hx, ho, hfd, k1, k2⟩ := h
    have hz : x.length ≤ sizeLine := Nat.le_trans hx (by decide)
    refine ⟨_, (pss_cons (ps_set (i := 1) sc_law_span.nd rfl (Or.inl rfl) (pe_m1 PySem.F.slot_str_find PySem.F.type_str_find mt_find (pv 0) pe_str))
        (pss_cons (ps_set (i := 2) sc_law_span.nd rfl (Or.inr rfl) (pe_lst (pa_cons (pe_slice sl_str (pv 0) po_none (po_some (pv 1))) (pa_cons (pe_slice sl_str (pv 0) (po_some (pe_op op_add (pv 1) pe_int)) po_none) pa_nil))))
        (pss_cons (ps_set (i := 3) sc_law_span.nd rfl (Or.inr rfl) (pe_lc (own := [("_law_part", 4)]) (g := gName 4) (tt := tYes) rfl sc_law_span.nd (pi_list (pv 2)) (blkOk_by (own := [("_law_part", 4)]) (N := ["_law_word", "_law_at", "_law_words", "_law_limits", "_law_part", "_law_k"]) (sc := defScope s_law_span) (by decide +kernel)) (fun _ _ _ _ _ => (pg_name (i := 4) sc_law_span.nd rfl (Or.inl rfl))) (fun _ _ _ _ _ => pts_nil) (fun _ _ _ _ _ => (pe_call (ok_law_number T) hr rfl T.m_law_number T.F_law_number.kp T.b_law_number .nil pass0 (pa_cons (pv 4) pa_nil)))))
        (pss_cons (ps_if (pt_cmpR (op_neD hr.units) (pe_lc (own := [("_law_k", 5)]) (g := gName 5) rfl sc_law_span.nd (pi_list (pe_lst (pa_cons pe_int (pa_cons pe_int pa_nil)))) (blkOk_by (own := [("_law_k", 5)]) (N := ["_law_word", "_law_at", "_law_words", "_law_limits", "_law_part", "_law_k"]) (sc := defScope s_law_span) (by decide +kernel)) (fun _ _ _ _ _ => (pg_name (i := 5) sc_law_span.nd rfl (Or.inl rfl))) (fun _ _ _ _ _ => (pts_one (PW.pt (pw_and (pt_cmpR op_ne (pe_ix (r := rIxL K) ix_list (pv 2) (pv 5) (fun _ _ => rfl)) pe_str (nomark _)) (pw_and1 (pt_cmpR op_isN (pe_ix (r := rIxL K) ix_list (pv 3) (pv 5) (fun _ _ => rfl)) pe_non (nomark _))))))) (fun _ _ _ _ _ => (pv 5))) (pe_lst pa_nil) (nomark _)) (pss_one (ps_ret pe_non)) pss_nil)
        (pss_cons (ps_if (PW.pt (pw_and (pt_cmpR op_notN (pe_ix ix_list (pv 3) pe_int (fun _ _ => rfl)) pe_non (nomark _)) (pw_and (pt_cmpR op_notN (pe_ix ix_list (pv 3) pe_int (fun _ _ => rfl)) pe_non (nomark _)) (pw_and1 (pt_cmpR op_ge (pe_ix ix_list (pv 3) pe_int (fun _ _ => rfl)) (pe_ix ix_list (pv 3) pe_int (fun _ _ => rfl)) (nomark _)))))) (pss_one (ps_ret pe_non)) pss_nil)
        (pss_one (ps_ret (pe_tup (pa_cons (pe_ix ix_list (pv 3) pe_int (fun _ _ => rfl)) (pa_cons (pe_ix ix_list (pv 3) pe_int (fun _ _ => rfl)) pa_nil)))))))))), ?_⟩
    refine ⟨_, rfl, ⟨x, rfl⟩, x, _, rfl, rfl, ?_⟩
    have k1 : rdO x = none → ∀ H', Same H H' → Q .non H' := k1
    rcases cut_cases x with ⟨e1, e2⟩ | ⟨i, hi, e1, e2⟩
    · exact absurd e1 hfd
    · rw [e1]
      have eR : rdO x = pairO (limT (cutS x none (some (i : Int)))) (limT (cutS x (some ((i : Int) + 2)) none)) := by
        unfold rdO
        rw [if_neg (by rw [e1]; omega), e2]
      refine ⟨_, rfl, _, rfl, _, rfl, _, rfl, hz, _, rfl, _, rfl, _, _, rfl, rfl, _, rfl, _, rfl, hz, (by show 2 ≤ sizeLine; decide), fun wl hwl => ?_⟩
      have hlow : (cutS x none (some (i : Int))).length ≤ 1000 ∧ PyData.strOk (cutS x none (some (i : Int))) = true := sOk.cut ⟨hx, ho⟩ _ _
      have hhigh : (cutS x (some ((i : Int) + 2)) none).length ≤ 1000 ∧ PyData.strOk (cutS x (some ((i : Int) + 2)) none) = true := sOk.cut ⟨hx, ho⟩ _ _
      generalize cutS x none (some (i : Int)) = low at *
      generalize cutS x (some ((i : Int) + 2)) none = high at *
      have s1 := same_new (o := .lst [.str low, .str high]) hwl
      have hwl1 : (upd H wl (.lst [.str low, .str high])) wl = some (.lst [.str low, .str high]) := upd_same
      refine ⟨_, rfl, wl, rfl, ⟨_, SqL.of upd_same⟩, fun D hD => ?_⟩
      refine lc_acc walk_list hD (fun H' k => SqL.of (k _ _ upd_same)) (fun i => (([low, high].take i).map fun w => limV (numO (tl w)))) rfl (fun i _ => ?_) ?_ ?_
      · rw [List.length_map, List.length_take]
        exact Nat.lt_of_le_of_lt (Nat.min_le_right _ _) (by show 2 < sizeLine; decide)
      · rintro j z H2 hj hz' s2 R S r1 r2
        have hz2 : ([low, high].map V.str)[j]? = some z := hz'
        rw [List.getElem?_map] at hz2
        obtain ⟨u, hu, rfl⟩ := Option.map_eq_some_iff.mp hz2
        have hu2 : u.length ≤ 1000 ∧ PyData.strOk u = true := by
          have := List.mem_of_getElem? hu
          simp only [List.mem_cons, List.not_mem_nil, or_false] at this
          rcases this with rfl | rfl
          · exact hlow
          · exact hhigh
        exact ⟨rfl, tyes ⟨_, rfl, u, rfl, hu2.1, hu2.2, fun H' s' => r1 _ H' (by rw [List.take_add_one, hu]; simp) s'⟩⟩
      intro H2 s2 hl
      have hl2 : H2 D = some (.lst [limV (numO (tl low)), limV (numO (tl high))]) := hl
      have hwl2 := s2 _ _ hwl1
      have s12 := s1.trans s2
      refine ⟨(by show 2 ≤ sizeLine; decide), fun zl hzl => ?_⟩
      have s3 := same_new (o := .lst [.int 0, .int 1]) hzl
      have hl3 := s3 _ _ hl2
      have hwl3 := s3 _ _ hwl2
      refine ⟨zl, rfl, ⟨_, SqL.of upd_same⟩, fun D2 hD2 => ?_⟩
      refine lc_acc walk_list hD2 (fun H' k => SqL.of (k _ _ upd_same)) (fun i => (badK (limT low) (limT high) i).map V.int) rfl (fun i _ => ?_) ?_ ?_
      · rw [List.length_map]
        exact Nat.lt_of_le_of_lt (badK_len _ _ _) (by show 2 < sizeLine; decide)
      · rintro j z H4 hj hz' k5 R S r1 r2
        have hz : [V.int 0, V.int 1][j]? = some z := hz'
        have hb1 : badK (limT low) (limT high) 1 = badK (limT low) (limT high) 0 ++ (if (limT low).isNone = true then [0] else []) := by
          cases limT low <;> rfl
        have hb2 : badK (limT low) (limT high) 2 = badK (limT low) (limT high) 1 ++ (if (limT high).isNone = true then [1] else []) := by
          cases limT low <;> cases limT high <;> rfl
        rcases j with _ | _ | j
        · obtain rfl : V.int 0 = z := Option.some.inj hz
          refine ⟨rfl, _, rfl, _, rfl, wl, _, 0, .str low, rfl, rfl, SqL.of (k5 _ _ hwl3), atI_nat (j := 0) rfl, rfl, _, rfl, ?_⟩
          rw [dec_str]
          cases ee : low == ("" : Str) with
          | true =>
            have en : (limT low).isNone = false := by unfold limT; rw [ee]; rfl
            refine iteF (r2 _ ?_ (Same.refl _))
            rw [hb1]
            simp [en]
          | false =>
            have ex : limT low = (numO (tl low)).map some := by unfold limT; rw [ee]; rfl
            refine iteT ⟨_, rfl, _, rfl, D, _, 0, limV (numO (tl low)), rfl, rfl, SqL.of (k5 _ _ hl3), atI_nat (j := 0) rfl, rfl, _, rfl, ?_⟩
            cases en : numO (tl low) with
            | none =>
              have en' : (limT low).isNone = true := by rw [ex, en]; rfl
              refine iteT ⟨_, rfl, r1 _ _ ?_ (Same.refl _)⟩
              rw [hb1]
              simp [en']
            | some m =>
              have en' : (limT low).isNone = false := by rw [ex, en]; rfl
              refine iteF (r2 _ ?_ (Same.refl _))
              rw [hb1]
              simp [en']
        · obtain rfl : V.int 1 = z := Option.some.inj hz
          refine ⟨rfl, _, rfl, _, rfl, wl, _, 1, .str high, rfl, rfl, SqL.of (k5 _ _ hwl3), atI_nat (j := 1) rfl, rfl, _, rfl, ?_⟩
          rw [dec_str]
          cases ee : high == ("" : Str) with
          | true =>
            have en : (limT high).isNone = false := by unfold limT; rw [ee]; rfl
            refine iteF (r2 _ ?_ (Same.refl _))
            rw [hb2]
            simp [en]
          | false =>
            have ex : limT high = (numO (tl high)).map some := by unfold limT; rw [ee]; rfl
            refine iteT ⟨_, rfl, _, rfl, D, _, 1, limV (numO (tl high)), rfl, rfl, SqL.of (k5 _ _ hl3), atI_nat (j := 1) rfl, rfl, _, rfl, ?_⟩
            cases en : numO (tl high) with
            | none =>
              have en' : (limT high).isNone = true := by rw [ex, en]; rfl
              refine iteT ⟨_, rfl, r1 _ _ ?_ (Same.refl _)⟩
              rw [hb2]
              simp [en']
            | some m =>
              have en' : (limT high).isNone = false := by rw [ex, en]; rfl
              refine iteF (r2 _ ?_ (Same.refl _))
              rw [hb2]
              simp [en']
        · cases hz
      intro H4 s4 hb
      refine ⟨Nat.zero_le _, fun q hq => ?_⟩
      have s5 := same_new (o := .lst []) hq
      have s45 := s4.trans s5
      have hl5 := s45 _ _ hl3
      have sf := (s12.trans s3).trans s45
      have hb : H4 D2 = some (.lst ((badK (limT low) (limT high) 2).map V.int)) := hb
      refine ⟨_, _, .lst (SqL.of (s5 _ _ hb)) (dpAll_ints _), .lst (SqL.of upd_same) .nil, shaped_list (n := 0) (by decide) (fun d hd => ?_), shaped_nil, _, rfl, ?_⟩
      · obtain ⟨m, _, rfl⟩ := List.mem_map.mp hd
        exact ⟨rfl, by simp [PyData.depth]⟩
      have eb : PyData.eqv (.list ((badK (limT low) (limT high) 2).map PyData.int)) (.list []) = (badK (limT low) (limT high) 2).isEmpty := by
        rw [eqv_nil, List.isEmpty_map]
      cases el : limT low with
      | none =>
        have eb' : (!PyData.eqv (.list ((badK (limT low) (limT high) 2).map PyData.int)) (.list [])) = true := by
          rw [eb, badK_none (.inl el)]
          rfl
        rw [el] at eb'
        exact iteTe eb' (k1 (by rw [eR, pairO_none (.inl el)]) _ sf)
      | some a =>
        cases eh : limT high with
        | none =>
          have eb' : (!PyData.eqv (.list ((badK (limT low) (limT high) 2).map PyData.int)) (.list [])) = true := by
            rw [eb, badK_none (.inr eh)]
            rfl
          rw [el, eh] at eb'
          exact iteTe eb' (k1 (by rw [eR, pairO_none (.inr eh)]) _ sf)
        | some b =>
          have eb' : (!PyData.eqv (.list ((badK (some a) (some b) 2).map PyData.int)) (.list [])) = false := by
            rw [← el, ← eh, eb, el, eh, badK_some]
            rfl
          refine iteFe eb' ?_
          rw [← limT_num el, ← limT_num eh] at hl5
          have eR : rdO x = if okS (a, b) = true then some (a, b) else none := by rw [eR, el, eh]; rfl
          have hL := SqL.of (K := K) hl5
          have ret : okS (a, b) = true → ∀ p, (upd H4 q (.lst [])) p = none → Q (.ref p) (upd (upd H4 q (.lst [])) p (.tup [limV a, limV b])) := fun oo p hp =>
            k2 (a, b) (by rw [eR, if_pos oo]) p _ (sf.trans (same_new hp)) (sf.free hp) upd_same
          refine ⟨_, rfl, D, _, 0, limV a, rfl, rfl, hL, atI_nat (j := 0) rfl, rfl, _, rfl, ?_⟩
          cases a with
          | none => exact iteF (iteF ⟨_, rfl, D, _, 0, _, rfl, rfl, hL, atI_nat (j := 0) rfl, _, rfl, D, _, 1, _, rfl, rfl, hL, atI_nat (j := 1) rfl, (by show 2 ≤ sizeLine; decide), fun p hp => ret rfl p hp⟩)
          | some m =>
            refine iteT ⟨_, rfl, D, _, 1, limV b, rfl, rfl, hL, atI_nat (j := 1) rfl, rfl, _, rfl, ?_⟩
            cases b with
            | none => exact iteF (iteF ⟨_, rfl, D, _, 0, _, rfl, rfl, hL, atI_nat (j := 0) rfl, _, rfl, D, _, 1, _, rfl, rfl, hL, atI_nat (j := 1) rfl, (by show 2 ≤ sizeLine; decide), fun p hp => ret rfl p hp⟩)
            | some n =>
              refine iteT ⟨_, rfl, D, _, 0, _, rfl, rfl, hL, atI_nat (j := 0) rfl, _, rfl, D, _, 1, _, rfl, rfl, hL, atI_nat (j := 1) rfl, _, _, rfl, rfl, _, rfl, ?_⟩
              cases eo : decide (m < n) with
              | true =>
                have en : decide (n ≤ m) = false := decide_eq_false (by have := of_decide_eq_true eo; omega)
                rw [en]
                exact iteF ⟨_, rfl, D, _, 0, _, rfl, rfl, hL, atI_nat (j := 0) rfl, _, rfl, D, _, 1, _, rfl, rfl, hL, atI_nat (j := 1) rfl, (by show 2 ≤ sizeLine; decide), fun p hp => ret eo p hp⟩
              | false =>
                have en : decide (n ≤ m) = true := decide_eq_true (by have := of_decide_eq_false eo; omega)
                rw [en]
                exact iteT (k1 (by rw [eR, if_neg (by show ¬ decide (m < n) = true; rw [eo]; decide)]) _ sf)
theorem ok_law_bent (T : Txt K mg base) : FnOk P w K mg base CX0 2 T.f_law_bent T.fd_law_bent ["_law_box_here", "_law_text_here"] sp_lbent9 := by
  refine T.F_law_bent.ok sc_law_bent (fun vs H Q E h => ?_) (fun cdv A outer s H vs Q E hr h => ?_)
  · obtain ⟨H0, p, n, t, rfl, _⟩ := h
    rfl
  · obtain ⟨H0, p, n, t, rfl, B, ht, t9, hn, k⟩ := h
    refine ⟨_, (pss_cons (ps_set (i := 2) sc_law_bent.nd rfl (Or.inl rfl) (pe_call (ok_law_take T) hr rfl T.m_law_take T.F_law_take.kp T.b_law_take .nil pass0 (pa_cons (pv 0) (pa_cons (pe_op op_add (pe_callB (id := "len") call_len_str (by rfl) T.z_len (by decide +kernel) (pa_cons (pv 1) pa_nil)) pe_int) pa_nil))))
        (pss_cons (ps_set (i := 3) sc_law_bent.nd rfl (Or.inl rfl) (pe_ix ix_list (pe_lst (pa_cons pe_str (pa_cons pe_str (pa_cons pe_str (pa_cons pe_str (pa_cons pe_str (pa_cons pe_str (pa_cons pe_str (pa_cons pe_str (pa_cons pe_str (pa_cons pe_str (pa_cons pe_str (pa_cons pe_str (pa_cons pe_str pa_nil)))))))))))))) (pe_call (ok_law_take T) hr rfl T.m_law_take T.F_law_take.kp T.b_law_take .nil pass0 (pa_cons (pv 0) (pa_cons pe_int pa_nil))) (fun _ _ => rfl)))
        (pss_cons (ps_par (i := 4) (j := 5) (by rfl) sc_law_bent.nd rfl rfl (by decide) rfl rfl (pa_cons (pe_slice sl_str (pv 1) po_none (po_some (pv 2))) (pa_cons (pe_slice sl_str (pv 1) (po_some (pe_op op_add (pv 2) pe_int)) po_none) pa_nil)) (by rfl))
        (pss_one (ps_ret (pe_ix ix_list (pe_lst (pa_cons (pe_op op_add_str (pe_op op_add_str (pv 4) (pv 3)) (pe_slice sl_str (pv 1) (po_some (pv 2)) po_none)) (pa_cons (pe_op op_add_str (pv 4) (pv 5)) (pa_cons (pe_op op_add_str (pe_op op_add_str (pv 4) (pv 3)) (pv 5)) pa_nil)))) (pe_call (ok_law_take T) hr rfl T.m_law_take T.F_law_take.kp T.b_law_take .nil pass0 (pa_cons (pv 0) (pa_cons pe_int pa_nil))) (fun _ _ => rfl))))))), ?_⟩
    have hz : t.length ≤ sizeLine := Nat.le_trans t9 (by decide)
    refine ⟨_, rfl, _, rfl, t, rfl, hz, _, _, rfl, rfl, H0, p, n, _, rfl, B, by omega, by omega, by omega, fun z1 H1 z10 z11 B1 => ?_⟩
    obtain ⟨i, rfl⟩ := Int.eq_ofNat_of_zero_le z10
    refine ⟨(by show 13 ≤ sizeLine; decide), fun l hl => ?_⟩
    have b1 := B1.new (o := .lst ((["; ", " ", "a", "0", "..", "rest ", "-", "table", ";", "5", "; rest a", "empty", "\n"] : List Str).map V.str)) hl
    refine ⟨_, rfl, _, p, _, 13, rfl, b1.1, by omega, by decide, by decide, fun z2 H2 z20 z21 B2 => ?_⟩
    obtain ⟨mv, hv, hmv⟩ := atI_in (xs := (["; ", " ", "a", "0", "..", "rest ", "-", "table", ";", "5", "; rest a", "empty", "\n"] : List Str).map V.str) z20 z21
    obtain ⟨mo, hmo, rfl⟩ := List.mem_map.mp hmv
    have all : ∀ s ∈ (["; ", " ", "a", "0", "..", "rest ", "-", "table", ";", "5", "; rest a", "empty", "\n"] : List Str), sOk 8 s ∧ (TL.tl s).count 59 ≤ 1 := by
      unfold sOk
      decide +kernel
    obtain ⟨ok5, mo1⟩ := all mo hmo
    refine ⟨l, _, z2, .str mo, rfl, rfl, SqL.of (B2.same _ _ upd_same), hv, ?_⟩
    have B3 := B2.low b1.2
    have e1 : (i : Int) + 1 = ((i + 1 : Nat) : Int) := by omega
    refine ⟨_, rfl, _, rfl, _, rfl, t, rfl, hz, _, rfl, _, rfl, _, _, rfl, rfl, _, rfl, t, rfl, hz, _, _, rfl, ?_⟩
    rw [e1]
    have lh := cutl t i
    have lt := cutr t (i + 1)
    have lr := cutr t i
    have tok : sOk t.length t := ⟨Nat.le_refl _, ht.2⟩
    have oh := (tok.cut none (some (i : Int))).2
    have ot := (tok.cut (some ((i + 1 : Nat) : Int)) none).2
    have orr := (tok.cut (some (i : Int)) none).2
    have lm := ok5.1
    have hm := ok5.2
    obtain ⟨sm1, sm2⟩ := semi_cut t i
    generalize hH : cutS t none (some (i : Int)) = hd at lh oh sm1 sm2
    generalize hT : cutS t (some ((i + 1 : Nat) : Int)) none = tl at lt ot sm2
    generalize hR : cutS t (some (i : Int)) none = rs at lr orr sm1 sm2
    have z9 : 2000 ≤ sizeLine := by decide
    have il : i ≤ t.length := by omega
    have f1 : (hd ++ mo).length = hd.length + mo.length := Str.length_append _ _
    refine ⟨_, rfl, _, rfl, _, _, rfl, rfl, by omega, _, rfl, _, rfl, _, rfl, t, rfl, hz, _, _, rfl, rfl, ?_, _, rfl, _, rfl, _, _, rfl, rfl, by omega, _, rfl, _, rfl, _, _, rfl, rfl, by omega, _, rfl, _, _, rfl, rfl, by omega, (by show 3 ≤ sizeLine; decide), fun l2 hl2 => ?_⟩
    · rw [hR]
      omega
    rw [hR]
    have b4 := B3.new (o := .lst (([(hd ++ mo) ++ rs, hd ++ tl, (hd ++ mo) ++ tl] : List Str).map V.str)) hl2
    refine ⟨_, rfl, _, p, _, 3, rfl, b4.1, by omega, by decide, by decide, fun z3 H3 z30 z31 B5 => ?_⟩
    obtain ⟨uv, hu, hmu⟩ := atI_in (xs := ([(hd ++ mo) ++ rs, hd ++ tl, (hd ++ mo) ++ tl] : List Str).map V.str) z30 z31
    obtain ⟨u, hu2, rfl⟩ := List.mem_map.mp hmu
    refine ⟨l2, _, z3, .str u, rfl, rfl, SqL.of (B5.same _ _ upd_same), hu, ?_⟩
    have o1 : sOk hd.length hd := ⟨Nat.le_refl _, oh⟩
    have o2 : sOk mo.length mo := ⟨Nat.le_refl _, hm⟩
    have o3 : sOk tl.length tl := ⟨Nat.le_refl _, ot⟩
    have o4 : sOk rs.length rs := ⟨Nat.le_refl _, orr⟩
    have fin : sOk (t.length + 8) u := by
      simp only [List.mem_cons, List.not_mem_nil, or_false] at hu2
      rcases hu2 with rfl | rfl | rfl
      · exact ((o1.app o2).app o4).mono (by omega)
      · exact (o1.app o3).mono (by omega)
      · exact ((o1.app o2).app o3).mono (by omega)
    have mo1 : semi mo ≤ 1 := mo1
    refine k _ u ((B5.low b4.2).mono (by omega)) ⟨Nat.le_trans fin.1 (by omega), fin.2⟩ fin.1 ?_
    simp only [List.mem_cons, List.not_mem_nil, or_false] at hu2
    rcases hu2 with rfl | rfl | rfl
    · rw [semi_app, semi_app]
      omega
    · rw [semi_app]
      omega
    · rw [semi_app, semi_app]
      omega
theorem ok_law_told (T : Txt K mg base) : FnOk P w K mg base CX0 13 T.f_law_told T.fd_law_told ["_law_value"] (sp_ltold9 K T.C_Catalog T.pt_all_stretches) := by
  refine T.F_law_told.ok sc_law_told (fun vs H Q E h => ?_) (fun cdv A outer s H vs Q E hr h => ?_)
  · obtain ⟨v, o, rfl, _⟩ := h
    rfl
  · obtain ⟨v, o, rfl, hv, hT, hok, k2, k1⟩ := h
    refine ⟨_, (pss_one (ps_try_manyAs (i := 1) (n := "e") rfl rfl sc_law_told.nd rfl rfl takes0 (fun W pn xe tk _ => by exact (pss_one (ps_ret (pe_lst (pa_cons pe_str (pa_cons (pe_callS (ok_read_catalog T) hr rfl T.m_read_catalog T.F_read_catalog.kp T.b_read_catalog (fun σ => passAt tk σ) (pa_cons (pv 0) pa_nil)) pa_nil))))))
          (HdsAs.cons ⟨rfl, by decide, Or.inl T.g_InvalidText⟩ (fun a oe cls d pn hz hf => by exact (pss_one (ps_ret (pe_lst (pa_cons pe_str (pa_cons (pe_xf T.y_InvalidText T.n_InvalidText hz hf (pv 1)) pa_nil)))))) HdsAs.nil))), ?_⟩
    have z2 : (2 : Nat) ≤ sizeLine := by decide
    have lk : List.lookup ("value" : Str) [(("value" : Str), v)] = some v := by simp [List.lookup]
    refine ⟨_, rfl, v, o, rfl, hv, hT, hok, fun non => ?_, fun t x rs rt H' e1 e2 pv ec ex hT' st => ⟨z2, fun q hq => k1 t x rs rt _ q e1 e2 pv ec (ex.trans (.same (same_new hq))) (hT'.ext (same_new hq)) (st.mono (same_new hq)) upd_same⟩⟩
    intro d H' hd ex hT'
    exact ⟨true, T.e_InvalidText_InvalidText, fun _ a ha => ⟨_, rfl, rfl, rfl, d, _, v, rfl, hd, lk, z2, fun p hp => k2 non _ p (ex.trans (.same (same_new hp))) (hT'.ext (same_new hp)) upd_same⟩, fun q => nomatch q⟩
theorem ok_law_text (T : Txt K mg base) : FnOk P w K mg base CX0 1 T.f_law_text T.fd_law_text ["_law_model_here"] sp_ltext9 := by
  refine T.F_law_text.ok sc_law_text (fun vs H Q E h => ?_) (fun cdv A outer s H vs Q E hr h => ?_)
  · obtain ⟨q, rr, rt, rfl, _⟩ := h
    rfl
  · obtain ⟨q, rr, rt, rfl, hM, hG, hsm, k⟩ := h
    refine ⟨_, (pss_cons (ps_set (i := 1) sc_law_text.nd rfl (Or.inl rfl) (pe_callB (id := "sorted") cr_sortedTS (by rfl) T.z_sorted (by decide +kernel) (pa_cons (pe_lc (own := [("_law_row", 3)]) (g := gName 3) (tt := tYes) rfl sc_law_text.nd (pi_list (pe_ix ix_list (pv 0) pe_int (fun _ _ => rfl))) (blkOk_by (own := [("_law_row", 3)]) (N := ["_law_model_here", "_law_rows", "_law_words", "_law_row", "_law_limit", "_law_name", "_law_span_here"]) (sc := defScope s_law_text) (by decide +kernel)) (fun _ _ _ _ _ => (pg_name (i := 3) sc_law_text.nd rfl (Or.inl rfl))) (fun _ _ _ _ _ => pts_nil) (fun _ _ _ _ _ => (pe_callTy (T := "tuple") (r := rTupOfN K) call_tuple_of (by rfl) T.z_tuple (by decide +kernel) (pa_cons (pv 3) pa_nil)))) pa_nil)))
        (pss_cons (ps_setLc (i := 2) (own := [("_law_name", 5), ("_law_span_here", 6)]) (g := gTup K 2 (gCons (gName 5) (gCons (gName 6) gNil))) (tt := tYes) rfl sc_law_text.nd rfl rfl (sw_true rfl rfl rfl (by decide +kernel)) (pi_list (pv 1)) (blkOk_by (own := [("_law_name", 5), ("_law_span_here", 6)]) (N := ["_law_model_here", "_law_rows", "_law_words", "_law_row", "_law_limit", "_law_name", "_law_span_here"]) (sc := defScope s_law_text) (by decide +kernel)) (fun _ _ _ _ _ => (pg_tup rfl (pgs_cons (pg_name (i := 5) sc_law_text.nd rfl (Or.inl rfl)) (pgs_cons (pg_name (i := 6) sc_law_text.nd rfl (Or.inl rfl)) pgs_nil)))) (fun _ _ _ _ _ => pts_nil) (fun _ _ _ _ _ => (pe_op op_add_str (pe_op op_add_str (pv 5) pe_str) (show PE _ _ (tM1 (rJoinK K) _ _) from (pe_join pe_str (pe_lc (own := [("_law_limit", 4)]) (g := gName 4) (tt := tYes) rfl sc_law_text.nd (show PI _ _ _ (iTup K _) from (pi_tup (pv 6))) (blkOk_by (own := [("_law_limit", 4)]) (N := ["_law_model_here", "_law_rows", "_law_words", "_law_row", "_law_limit", "_law_name", "_law_span_here"]) (by kernel_rfl)) (fun _ _ _ _ _ => (pg_name (i := 4) sc_law_text.nd rfl (Or.inl rfl))) (fun _ _ _ _ _ => pts_nil) (fun _ _ _ _ _ => (pe_ifExp (pt_cmpR op_isN (pv 4) pe_non (nomark _)) pe_str (pe_callTy (T := "str") call_str_int (by rfl) T.z_str (by decide +kernel) (pa_cons (pv 4) pa_nil))))))))))
        (pss_cons (ps_if (pt_cmpR op_notN (pe_ix ix_list (pv 0) pe_int (fun _ _ => rfl)) pe_non (nomark _)) (pss_one (ps_expr (pe_bm PySem.F.plainAttrs_list PySem.F.slot_list_append PySem.F.type_list_append mt_append (pv 2) (pa_cons (pe_op op_add_str pe_str (pe_ix ix_list (pv 0) pe_int (fun _ _ => rfl))) pa_nil)))) pss_nil)
        (pss_one (ps_ret (pe_ifExp (pt_cmpR (op_neD hr.units) (pv 2) (pe_lst pa_nil) (nomark _)) (pe_join pe_str (pv 2)) pe_str)))))), ?_⟩
    have hnd := hG.ndM
    obtain ⟨⟨lr, ys, hq, hlr⟩, hrows⟩ := hM
    have hrr : rr.length ≤ 8 := rr_len hG.len
    refine ⟨_, rfl, q, _, 0, .ref lr, rfl, rfl, SqL.of hq, atI_nat (j := 0) rfl, lr, rfl, ⟨_, SqL.of hlr⟩, fun D hD => ?_⟩
    refine lc_it walk_list (fun j H' => ∃ ts : List Addr, Same H H' ∧ H' D = some (.lst (ts.map V.ref)) ∧ ts.length = j ∧ PySem.Paired (fun a (r : Row) => H' a = some (.tup [.str r.1, .ref r.2.1])) ts ((rowsM rr).take j)) ⟨[], same_new hD, upd_same, rfl, .nil⟩ (fun j H' _ ⟨ts, s, _⟩ => SqL.of (s _ _ hlr)) ?_ ?_
    · rintro j2 y H21 H22 hj2 ⟨ts, s1, hD1, htl, hts⟩ hy
      obtain ⟨rfl, hx⟩ := hy
      have hx : (rr.map fun r => V.ref r.1)[j2]? = some y := hx
      rw [List.getElem?_map] at hx
      obtain ⟨r, hr', rfl⟩ := Option.map_eq_some_iff.mp hx
      obtain ⟨hr1, hr2⟩ := hrows r (List.mem_of_getElem? hr')
      have hri : (rowsM rr)[j2]? = some (r.2.1, r.2.2.1, r.2.2.2) := by
        unfold rowsM
        rw [List.getElem?_map, hr']
        rfl
      refine ⟨rfl, tyes ⟨_, rfl, r.1, _, rfl, .inl ⟨SqL.of (s1 _ _ hr1), fun u hu => ?_⟩⟩⟩
      have ntD : u ≠ D := (ne_of_none hD1 hu).symm
      have s2 := same_new (o := .tup [.str r.2.1, .ref r.2.2.1]) hu
      refine ⟨_, by rw [upd_ne ntD.symm]; exact hD1, ?_, ts ++ [u], fun b o e => ?_, by rw [upd_same, List.map_append]; rfl, by rw [List.length_append, htl]; rfl, ?_⟩
      · have hj2 : j2 < (rr.map fun r => V.ref r.1).length := hj2
        rw [List.length_map] at hj2 ⊢
        exact Nat.lt_of_le_of_lt (show ts.length ≤ 100 by omega) (by decide)
      · rw [upd_ne (ne_of_none e hD)]
        exact s2 _ _ (s1 _ _ e)
      · rw [List.take_add_one, hri]
        refine paired_snoc (by rw [upd_ne ntD, upd_same]) (paired_imp (fun a r e => ?_) hts)
        rw [upd_ne (ne_of e hD1 (by intro z; cases z))]
        exact s2 _ _ e
    rintro H1 ⟨ts, s1, hD1, htl, hts⟩
    rw [List.length_map] at hts
    have hts : PySem.Paired (fun a (r : Row) => H1 a = some (.tup [.str r.1, .ref r.2.1])) ts (rowsM rr) := by
      rw [List.take_of_length_le (by unfold rowsM; rw [List.length_map]; exact Nat.le_refl _)] at hts
      exact hts
    have hpr := paired_ref hts
    have hk : ∀ {x : V} {r : Row}, (∃ t, x = .ref t ∧ H1 t = some (.tup [.str r.1, .ref r.2.1])) → (decT H1 x).1 = r.1 := fun {x r} h => by
      obtain ⟨t, rfl, e⟩ := h
      rw [decT_of e]
    have hnm : (ts.map V.ref).map (fun x => (decT H1 x).1) = (rowsM rr).map (·.1) := paired_right (fun _ _ h => hk h) hpr
    refine ⟨D, ts.map V.ref, fun x => (decT H1 x).1, rfl, SqL.of hD1, fun x hx => ?_, fun x hx y hy e => ?_, fun zs p hsd hp hpf => ?_⟩
    · obtain ⟨r, _, t, rfl, e⟩ := paired_memL hpr x hx
      exact ⟨t, .ref r.2.1, rfl, by show H1 t = some (.tup [.str (decT H1 (.ref t)).1, _]); rw [decT_of e]; exact e⟩
    · refine nodup_map_inj (f := fun x => (decT H1 x).1) (by rw [hnm]; exact hnd) hx hy e
    obtain ⟨m, hpz, hpm⟩ := paired_perm hp hpr
    have em : m = sortR (rowsM rr) := by
      refine sortR_uniq hpm hnd ?_
      rw [← paired_right (f := fun x => (decT H1 x).1) (fun _ _ h => hk h) hpz, List.pairwise_map]
      exact List.Pairwise.imp (fun h => (leS_iff _ _).mpr (ltTS_no.mp h)) hsd
    subst em
    have s2 := same_new (o := .lst zs) hpf
    have hz2 : (upd H1 p (.lst zs)) p = some (.lst zs) := upd_same
    have s12 := s1.trans s2
    generalize upd H1 p (.lst zs) = H2 at s2 hz2 s12 ⊢
    have hl8 : (sortR (rowsM rr)).length ≤ 8 := by
      rw [sortR_len]
      unfold rowsM
      rw [List.length_map]
      exact hrr
    have hzl : zs.length = (sortR (rowsM rr)).length := by
      have := congrArg List.length (paired_right (f := fun _ => ()) (g := fun _ => ()) (fun _ _ _ => rfl) hpz)
      rwa [List.length_map, List.length_map] at this
    have z1 : (" " : Str).length = 1 := by decide +kernel
    have z9 : 2000 ≤ sizeLine := by decide
    refine ⟨_, rfl, p, rfl, ⟨_, SqL.of hz2⟩, fun D2 hD2 => ?_⟩
    refine lc_acc walk_list hD2 (fun H' s => SqL.of (s _ _ hz2)) (fun i => ((sortR (rowsM rr)).take i).map fun r => V.str (rowN (nsr r))) rfl (fun i hi => ?_) ?_ ?_
    · rw [List.length_map]
      exact Nat.lt_of_le_of_lt (Nat.le_trans (List.length_take_le' _ _) hl8) (by decide)
    · rintro i y H3 hi hy s3 R S r1 r2
      have hy : zs[i]? = some y := hy
      obtain ⟨r, hri, t, rfl, ht⟩ := paired_at hpz hy
      obtain ⟨mr, hmr, em⟩ := List.mem_map.mp (sortR_mem (List.mem_of_getElem? hri))
      obtain ⟨_, hrow⟩ := hrows mr hmr
      obtain ⟨m1, m2⟩ := hsm mr hmr
      have en : nameS r.1 = true := by
        rw [← em]
        exact hG.nms _ (List.mem_append_left _ (List.mem_map.mpr ⟨mr, hmr, rfl⟩))
      have nl := nameC_len en
      have e1 : mr.2.2.1 = r.2.1 := by rw [← em]
      have e2 : mr.2.2.2 = r.2.2 := by rw [← em]
      rw [e1, e2] at hrow
      rw [e2] at m1 m2
      have hspn := (s12.trans s3) _ _ hrow
      refine ⟨t, _, rfl, SqT.of (s3 _ _ (s2 _ _ ht)), rfl, _, _, rfl, _, _, rfl, rfl, rfl, tyes ⟨_, rfl, _, _, rfl, rfl, by omega, ⟨_, rfl⟩, _, rfl, r.2.1, rfl, ⟨_, SqT.of hspn⟩, fun D3 hD3 => ?_⟩⟩
      refine lc_acc walk_tup hD3 (fun H' k => SqT.of (k _ _ hspn)) (fun i => (([r.2.2.1, r.2.2.2].take i).map fun o => V.str (limS o))) rfl (fun i _ => ?_) ?_ ?_
      · rw [List.length_map, List.length_take]
        exact Nat.lt_of_le_of_lt (Nat.min_le_right _ _) (by show 2 < sizeLine; decide)
      · rintro j z H4 hj hz' k4 R' S' r1' r2'
        have hz2 : ([r.2.2.1, r.2.2.2].map limV)[j]? = some z := hz'
        rw [List.getElem?_map] at hz2
        obtain ⟨u, hu, rfl⟩ := Option.map_eq_some_iff.mp hz2
        have hu2 : smO u := by
          have := List.mem_of_getElem? hu
          simp only [List.mem_cons, List.not_mem_nil, or_false] at this
          rcases this with rfl | rfl
          · exact m1
          · exact m2
        refine ⟨rfl, tyes ⟨_, rfl, rfl, _, rfl, ?_⟩⟩
        have ea : (([r.2.2.1, r.2.2.2].take (j + 1)).map fun o => V.str (limS o)) = (([r.2.2.1, r.2.2.2].take j).map fun o => V.str (limS o)) ++ [V.str (limS u)] := by
          rw [List.take_add_one, hu]
          simp
        cases u with
        | none => exact iteT (r1' _ _ ea (Same.refl _))
        | some i => exact iteF ⟨_, rfl, i, rfl, log_lt hu2, r1' _ _ ea (Same.refl _)⟩
      intro H4 s4 hl
      have h1 := (limS_ok m1).1
      have h2 := (limS_ok m2).1
      have h3 : (".." : Str).length = 2 := by decide +kernel
      refine ⟨_, D3, [limS r.2.2.1, limS r.2.2.2], rfl, rfl, .inl (SqL.of hl), ?_, ?_⟩
      · show (limS r.2.2.1).length + ((limS r.2.2.2).length + 0) + 2 * (".." : Str).length ≤ 16777216
        omega
      rw [spS_join]
      refine ⟨_, _, rfl, rfl, ?_, r1 _ _ ?_ s4⟩
      · rw [Str.length_append, z1]
        have := (spS_ok m1 m2).1
        omega
      · rw [List.take_add_one, hri, List.map_append]
        rfl
    intro H3 s3 hl3
    rw [hzl, List.take_of_length_le (Nat.le_refl _)] at hl3
    have hl3 : H3 D2 = some (.lst (((sortR (rowsM rr)).map fun r => rowN (nsr r)).map V.str)) := by
      rw [hl3, List.map_map]
      rfl
    have sH3 := s12.trans s3
    have hq3 := sH3 _ _ hq
    have hio : ∀ w ∈ itemsN ((sortR (rowsM rr)).map nsr) rt, sOk 80 w := items_ok (fun e he => by
      obtain ⟨r, hr', rfl⟩ := List.mem_map.mp he
      obtain ⟨mr, hmr, rfl⟩ := List.mem_map.mp (sortR_mem hr')
      exact ⟨hG.nms _ (List.mem_append_left _ (List.mem_map.mpr ⟨mr, hmr, rfl⟩)), hsm mr hmr⟩) fun s e => (hG.rest s e).1
    have hil : (itemsN ((sortR (rowsM rr)).map nsr) rt).length ≤ 9 := by
      unfold itemsN
      rw [List.length_append, List.length_map, List.length_map, List.length_map]
      cases rt <;> simp <;> omega
    have fin : ∀ H4, Same H H4 → H4 D2 = some (.lst ((itemsN ((sortR (rowsM rr)).map nsr) rt).map V.str)) → tRet (tIf (tTest (tOp (rNeD K) (tVar 2) (tLst tNil))) (tM1 (fun x xs H_1 Q => ∃ a p ys, x = V.str a ∧ xs = [V.ref p] ∧ (SqL K H_1 p (List.map V.str ys) ∨ SqT K H_1 p (List.map V.str ys)) ∧ (List.map (fun x => x.length) ys).sum + ys.length * a.length ≤ 16777216 ∧ Q (V.str (Txt.join a ys)) H_1) (tC (V.str "; ")) (tVar 2)) (tC (V.str "empty"))) { nx := fun _ H' => Q V.non H', rt := Q } [some (.ref q), some (.ref p), some (.ref D2), none, none, none, none] H4 := fun H4 s4 h4 => by
      refine ⟨_, rfl, Nat.zero_le _, fun e0 he0 => ?_⟩
      have s5 := same_new (o := .lst []) he0
      refine ⟨_, _, .lst (SqL.of (s5 _ _ h4)) (dpAll_strs _), .lst (SqL.of upd_same) .nil, strs_sh hio, shaped_nil, _, rfl, ?_⟩
      rw [eqv_nil, List.isEmpty_map, items_nil]
      cases c : (((sortR (rowsM rr)).map nsr).isEmpty && rt.isNone) with
      | true =>
        have ec : catN ((sortR (rowsM rr)).map nsr) rt = "empty" := by unfold catN; rw [c, if_pos rfl]
        exact iteF (by rw [← ec]; exact k _ (s4.trans s5))
      | false =>
        have ec : catN ((sortR (rowsM rr)).map nsr) rt = Txt.join "; " (itemsN ((sortR (rowsM rr)).map nsr) rt) := by unfold catN; rw [c, if_neg Bool.false_ne_true]
        refine iteT ⟨⟨_, rfl⟩, _, rfl, "; ", D2, _, rfl, rfl, .inl (SqL.of (s5 _ _ h4)), ?_, by rw [← ec]; exact k _ (s4.trans s5)⟩
        have b := sum_le6 (m := 80) fun y hy => (hio y hy).1
        have z : ("; " : Str).length = 2 := by decide +kernel
        rw [z]
        omega
    clear hpz hts hpr
    refine ⟨_, rfl, q, _, 1, rvO rt, rfl, rfl, SqL.of hq3, atI_nat (j := 1) rfl, rfl, _, rfl, ?_⟩
    cases rt with
    | none => exact iteF (fin H3 sH3 (by rw [hl3]; unfold itemsN; rw [List.map_map]; simp))
    | some s' =>
      have nl := nameC_len ((hG.rest s' rfl).1)
      have z5 : ("rest " : Str).length = 5 := by decide +kernel
      have fD : H D2 = none := s12.free hD2
      refine iteT ⟨_, rfl, .inl ⟨rfl, _, .inl (.inl hl3)⟩, _, rfl, q, _, 1, .str s', rfl, rfl, SqL.of hq3, atI_nat (j := 1) rfl, _, _, rfl, rfl, by omega, D2, _, _, rfl, rfl, hl3, ?_, ?_⟩
      · rw [List.length_map, List.length_map]
        exact Nat.lt_of_le_of_lt hl8 (by decide)
      · refine fin _ ?_ ?_
        · exact fun b o e => by rw [upd_ne (ne_of_none e fD)]; exact sH3 _ _ e
        · rw [upd_same, restN_eq]
          unfold itemsN
          simp only [List.map_map, List.map_append]
          rfl
theorem ok_law_read (T : Txt K mg base) : FnOk P w K mg base CX0 3 T.f_law_read T.fd_law_read ["_law_text_here"] sp_lread9 := by
  refine T.F_law_read.ok sc_law_read (fun vs H Q E h => ?_) (fun cdv A outer s H vs Q E hr h => ?_)
  · obtain ⟨t, rfl, _⟩ := h
    rfl
  · obtain ⟨t, rfl, ht, k1, k2⟩ := h
    refine ⟨_, (pss_cons (ps_if (pt_cmpR op_eq (pv 0) pe_str (nomark _)) (pss_one (ps_ret (pe_lst (pa_cons (pe_lst pa_nil) (pa_cons pe_non pa_nil))))) pss_nil)
        (pss_cons (ps_par (i := 1) (j := 2) (by rfl) sc_law_read.nd rfl rfl (by decide) rfl rfl (pa_cons (pe_lst pa_nil) (pa_cons pe_non pa_nil)) (by rfl))
        (pss_cons (ps_for PassesOwn.never rfl (pi_list (pe_split (pv 0) pe_str)) (pg_name (i := 3) sc_law_read.nd rfl (Or.inl rfl))
          (pss_cons (ps_set (i := 4) sc_law_read.nd rfl (Or.inr rfl) (pe_split (pv 3) pe_str))
        (pss_cons (ps_if (PW.pt (pw_or (pt_cmpR op_ne (pe_callB (id := "len") call_len_seq (by rfl) T.z_len (by decide +kernel) (pa_cons (pv 4) pa_nil)) pe_int (nomark _)) (pw_or (pt_cmpR op_notN (pv 2) pe_non (nomark _)) (pw_or1 (pt_not (pt_val (pe_call (ok_law_is_name T) (hr.mono (by decide)) rfl T.m_law_is_name T.F_law_is_name.kp T.b_law_is_name .nil pass0 (pa_cons (pe_ix ix_list (pv 4) pe_int (fun _ _ => rfl)) pa_nil)))))))) (pss_one (ps_ret pe_non)) pss_nil)
        (pss_cons (ps_set (i := 5) sc_law_read.nd rfl (Or.inr rfl) (pe_ifExp (pt_cmpR op_in_str pe_str (pe_ix ix_list (pv 4) pe_int (fun _ _ => rfl)) (by rfl)) (pe_call (ok_law_span T) hr rfl T.m_law_span T.F_law_span.kp T.b_law_span .nil pass0 (pa_cons (pe_ix ix_list (pv 4) pe_int (fun _ _ => rfl)) pa_nil)) pe_non))
        (pss_one (ps_if (pt_cmpR op_notN (pv 5) pe_non (nomark _)) (pss_cons (ps_if (pt_cmpR (op_neD hr.units) (pe_lc (own := [("_law_row", 6)]) (g := gName 6) rfl sc_law_read.nd (pi_list (pv 1)) (blkOk_by (own := [("_law_row", 6)]) (N := ["_law_text_here", "_law_rows", "_law_spared", "_law_part", "_law_words", "_law_span_here", "_law_row"]) (sc := defScope s_law_read) (by decide +kernel)) (fun _ _ _ _ _ => (pg_name (i := 6) sc_law_read.nd rfl (Or.inl rfl))) (fun _ _ _ _ _ => (pts_one (PW.pt (pw_or (pt_cmpR op_ge_str (pe_ix (r := rIxL K) ix_list (pv 6) pe_int (fun _ _ => rfl)) (pe_ix (r := rIxL K) ix_list (pv 4) pe_int (fun _ _ => rfl)) (nomark _)) (pw_or1 (pt_val (pe_call (ok_law_meet T) (hr.mono (by decide)) rfl T.m_law_meet T.F_law_meet.kp T.b_law_meet .nil pass0 (pa_cons (pe_ix (r := rIxL K) ix_list (pv 6) pe_int (fun _ _ => rfl)) (pa_cons (pv 5) pa_nil))))))))) (fun _ _ _ _ _ => (pv 6))) (pe_lst pa_nil) (nomark _)) (pss_one (ps_ret pe_non)) pss_nil)
        (pss_one (ps_expr (pe_bm PySem.F.plainAttrs_list PySem.F.slot_list_append PySem.F.type_list_append mt_append (pv 1) (pa_cons (pe_lst (pa_cons (pe_ix ix_list (pv 4) pe_int (fun _ _ => rfl)) (pa_cons (pv 5) pa_nil))) pa_nil))))) (pss_cons (ps_if (PW.pt (pw_or (pt_cmpR op_ne (pe_ix ix_list (pv 4) pe_int (fun _ _ => rfl)) pe_str (nomark _)) (pw_or (pt_not (pt_val (pe_call (ok_law_is_name T) (hr.mono (by decide)) rfl T.m_law_is_name T.F_law_is_name.kp T.b_law_is_name .nil pass0 (pa_cons (pe_ix ix_list (pv 4) pe_int (fun _ _ => rfl)) pa_nil)))) (pw_or1 (pt_cmpR op_in_seq (pe_ix ix_list (pv 4) pe_int (fun _ _ => rfl)) (pe_lc (own := [("_law_row", 6)]) (g := gName 6) (tt := tYes) rfl sc_law_read.nd (pi_list (pv 1)) (blkOk_by (own := [("_law_row", 6)]) (N := ["_law_text_here", "_law_rows", "_law_spared", "_law_part", "_law_words", "_law_span_here", "_law_row"]) (sc := defScope s_law_read) (by decide +kernel)) (fun _ _ _ _ _ => (pg_name (i := 6) sc_law_read.nd rfl (Or.inl rfl))) (fun _ _ _ _ _ => pts_nil) (fun _ _ _ _ _ => (pe_ix (r := rIxL K) ix_list (pv 6) pe_int (fun _ _ => rfl)))) (by rfl)))))) (pss_one (ps_ret pe_non)) pss_nil)
        (pss_one (ps_set (i := 2) sc_law_read.nd rfl (Or.inl rfl) (pe_ix ix_list (pv 4) pe_int (fun _ _ => rfl)))))))))))
        (pss_one (ps_ret (pe_ifExp (pt_cmpR op_gt (pe_op op_add (pe_callB (id := "len") call_len_seq (by rfl) T.z_len (by decide +kernel) (pa_cons (pv 1) pa_nil)) (pe_callTy (T := "int") call_int1 (by rfl) T.z_int (by decide +kernel) (pa_cons (pe_cmpR op_notN (pv 2) pe_non (nomark _)) pa_nil))) pe_int (nomark _)) pe_non (pe_lst (pa_cons (pv 1) (pa_cons (pv 2) pa_nil))))))))), ?_⟩
    have hz : t.length ≤ 1000 := ht.1
    refine ⟨_, rfl, rfl, _, rfl, ?_⟩
    rw [dec_str]
    cases e1 : t == ("empty" : Str) with
    | true =>
      have ep : lawC t = some ([], none) := by
        unfold lawC
        rw [e1, if_pos rfl]
      refine iteT ⟨Nat.zero_le _, fun l hl => ⟨(by show 2 ≤ sizeLine; decide), fun q hq => ?_⟩⟩
      have s1 := same_new (o := .lst []) hl
      have s2 := same_new (o := .lst [.ref l, .non]) hq
      exact k2 _ ep _ q (s1.trans s2) ⟨l, [], upd_same, s2 _ _ upd_same, fun r hr => (by cases hr), rfl⟩
    | false =>
      have ep := lawC_of e1
      refine iteF ⟨Nat.zero_le _, fun lr hlr => ?_⟩
      have s1 := same_new (o := .lst []) hlr
      have hl1 : (upd H lr (.lst [])) lr = some (.lst []) := upd_same
      generalize upd H lr (.lst []) = H1 at s1 hl1 ⊢
      refine ⟨_, _, rfl, _, rfl, ⟨t, rfl⟩, t, "; ", rfl, rfl, by decide +kernel, Nat.le_trans (Nat.add_le_add_right hz 2) (by show 1002 ≤ sizeLine; decide), fun wl hwl => ?_⟩
      have s2 := same_new (o := .lst ((Txt.split t "; ").map V.str)) hwl
      have hw2 : (upd H1 wl (.lst ((Txt.split t "; ").map V.str))) wl = some (.lst ((Txt.split t "; ").map V.str)) := upd_same
      have hl2 := s2 _ _ hl1
      have nwl : wl ≠ lr := (ne_of_none hl1 hwl).symm
      have s12 := s1.trans s2
      generalize upd H1 wl (.lst ((Txt.split t "; ").map V.str)) = H2 at s2 hw2 hl2 s12
      have hlen : (Txt.split t "; ").length ≤ 1001 := by
        have := split_semi t
        have h2 : semi t ≤ (TL.tl t).length := List.count_le_length
        rw [← TL.len_tl] at h2
        omega
      have z9 : 2000 ≤ sizeLine := by decide
      have bad : foldI itemL (Txt.split t "; ") ([], none) = none → lawC t = none := fun h => by rw [ep, h]; rfl
      refine ⟨wl, rfl, ⟨_, SqL.of hw2⟩, for_list (K := K) (a := wl) (xs := (Txt.split t "; ").map V.str) (fun i σ H' => ∃ (rr : List MRow) (rt : Option Str) (v3 v4 v5 : Option V), σ = [some (.str t), some (.ref lr), some (rvO rt), v3, v4, v5, none] ∧ SX [lr] H2 H' ∧ H' lr = some (.lst (rr.map fun r => V.ref r.1)) ∧ (∀ r ∈ rr, rowAt H' r ∧ nameS r.2.1 = true) ∧ foldI itemL ((Txt.split t "; ").drop i) (rr.map nsp, rt) = foldI itemL (Txt.split t "; ") ([], none) ∧ rr.length ≤ i)
        ⟨[], none, none, none, none, rfl, fun b o _ e => e, hl2, fun r hr => (by cases hr), rfl, Nat.le_refl _⟩ (fun i σ H' _ ⟨_, _, _, _, _, _, sx, _⟩ => SqL.of (sx _ _ (by simpa using nwl) hw2)) ?_ ?_⟩
      · rintro i y σ H3 hy ⟨rr, rt, v3, v4, v5, rfl, sx, hl3, hrr, hf, hri⟩
        rw [List.getElem?_map] at hy
        obtain ⟨w0, hw0, rfl⟩ := Option.map_eq_some_iff.mp hy
        have hwk := split_okC ht (List.mem_of_getElem? hw0)
        have hil : i < (Txt.split t "; ").length := (List.getElem?_eq_some_iff.mp hw0).1
        have hstep : foldI itemL ((Txt.split t "; ").drop i) (rr.map nsp, rt) = (itemL (rr.map nsp, rt) w0).bind (foldI itemL ((Txt.split t "; ").drop (i + 1))) := by
          rw [List.drop_eq_getElem_cons hil, (List.getElem?_eq_some_iff.mp hw0).2]
          rfl
        rw [hstep] at hf
        have bad2 : itemL (rr.map nsp, rt) w0 = none → lawC t = none := fun h => bad (by rw [← hf, h]; rfl)
        refine ⟨_, rfl, ⟨w0, rfl⟩, w0, " ", rfl, rfl, by decide +kernel, Nat.le_trans (Nat.add_le_add_right hwk.1 2) (by show 1002 ≤ sizeLine; decide), fun ww hww => ?_⟩
        have s4 := same_new (o := .lst ((Txt.split w0 " ").map V.str)) hww
        have hw4 : (upd H3 ww (.lst ((Txt.split w0 " ").map V.str))) ww = some (.lst ((Txt.split w0 " ").map V.str)) := upd_same
        have nww : ww ≠ lr := (ne_of_none hl3 hww).symm
        generalize upd H3 ww (.lst ((Txt.split w0 " ").map V.str)) = H4 at s4 hw4 ⊢
        have hl4 := s4 _ _ hl3
        have sx4 : SX [lr] H2 H4 := sx.trans (.of s4)
        have hrr4 : ∀ r ∈ rr, rowAt H4 r ∧ nameS r.2.1 = true := fun r hr' => ⟨⟨s4 _ _ (hrr r hr').1.1, s4 _ _ (hrr r hr').1.2⟩, (hrr r hr').2⟩
        clear s4 sx hl3 hrr hww
        have sH4 : Same H H4 := fun b u e => sx4 _ _ (by
          have : H1 lr ≠ none := by rw [hl1]; simp
          have h2 : b ≠ lr := fun z => by rw [z, hlr] at e; cases e
          simpa using h2) (s12 _ _ e)
        refine ⟨_, rfl, ww, _, rfl, .inl (SqL.of hw4), rfl, _, rfl, ?_⟩
        by_cases h2 : (Txt.split w0 " ").length = 2
        case neg => exact iteTe (by rw [List.length_map]; simp; omega) (iteT (k1 (bad2 (itemL_not h2)) _ sH4))
        obtain ⟨a0, a1, ews⟩ : ∃ a0 a1, Txt.split w0 " " = [a0, a1] := by
          generalize Txt.split w0 " " = W at h2
          match W, h2 with
          | [a, b], _ => exact ⟨a, b, rfl⟩
        have hk0 : tOkC a0 := split_okS hwk (by rw [ews]; exact List.mem_cons_self)
        have hk1 : tOkC a1 := split_okS hwk (by rw [ews]; exact List.mem_cons_of_mem _ List.mem_cons_self)
        rw [itemL_two ews] at hf bad2
        rw [ews] at hw4 ⊢
        refine iteFe (by simp) ⟨_, rfl, rfl, _, rfl, ?_⟩
        cases rt with
        | some s0 => exact iteT (iteT (k1 (bad2 rfl) _ sH4))
        | none =>
        refine iteF ⟨_, rfl, ww, _, 0, .str a0, rfl, rfl, SqL.of hw4, atI_nat (j := 0) rfl, a0, rfl, hk0, fun H5 s5 => ⟨_, rfl, ?_⟩⟩
        have sH5 := sH4.trans s5
        cases en : nameS a0 with
        | false => exact iteT (k1 (bad2 (by rw [en]; rfl)) _ sH5)
        | true =>
        rw [en] at hf bad2
        have hf : ((match rdO a1 with
          | some s => if badE (rr.map nsp) a0 s = true then none else some (rr.map nsp ++ [(a0, s)], none)
          | none => if (!decide (a0 = "rest") || (!nameS a1 || decide (a1 ∈ (rr.map nsp).map (·.1)))) = true then none else some (rr.map nsp, some a1) : Option RdQ)).bind (foldI itemL ((Txt.split t "; ").drop (i + 1))) = foldI itemL (Txt.split t "; ") ([], none) := hf
        have bad2 : ((match rdO a1 with
          | some s => if badE (rr.map nsp) a0 s = true then none else some (rr.map nsp ++ [(a0, s)], none)
          | none => if (!decide (a0 = "rest") || (!nameS a1 || decide (a1 ∈ (rr.map nsp).map (·.1)))) = true then none else some (rr.map nsp, some a1) : Option RdQ)) = none → lawC t = none := bad2
        refine iteF ?_
        have hw5 := s5 _ _ hw4
        have hl5 := s5 _ _ hl4
        have sx5 : SX [lr] H2 H5 := sx4.trans (.of s5)
        have hrr5 : ∀ r ∈ rr, rowAt H5 r ∧ nameS r.2.1 = true := fun r hr' => ⟨⟨s5 _ _ (hrr4 r hr').1.1, s5 _ _ (hrr4 r hr').1.2⟩, (hrr4 r hr').2⟩
        clear s5 hw4 hl4 sx4 hrr4 sH4
        refine seq_asg (if_span rfl hw5 hk1 (fun erd H6 s6 => ?_) (fun sp erd pa H6 s6 hpf hpa => ?_))
        · rw [erd] at hf bad2
          have bad2 : (if (!decide (a0 = "rest") || (!nameS a1 || decide (a1 ∈ (rr.map nsp).map (·.1)))) = true then none else some (rr.map nsp, some a1) : Option RdQ) = none → lawC t = none := bad2
          have hf : (if (!decide (a0 = "rest") || (!nameS a1 || decide (a1 ∈ (rr.map nsp).map (·.1)))) = true then none else some (rr.map nsp, some a1) : Option RdQ).bind (foldI itemL ((Txt.split t "; ").drop (i + 1))) = foldI itemL (Txt.split t "; ") ([], none) := hf
          have hw6 := s6 _ _ hw5
          refine ⟨_, rfl, rfl, _, rfl, iteF ?_⟩
          refine ⟨_, rfl, ww, _, 0, .str a0, rfl, rfl, SqL.of hw6, atI_nat (j := 0) rfl, rfl, _, rfl, ?_⟩
          by_cases hr0 : a0 = "rest"
          case neg => exact iteTe (by simp [hr0]) (iteT (k1 (bad2 (if_pos (by simp [hr0]))) _ (sH5.trans s6)))
          refine iteFe (by simp [hr0]) ⟨_, rfl, ww, _, 1, .str a1, rfl, rfl, SqL.of hw6, atI_nat (j := 1) rfl, a1, rfl, hk1, fun H7 s7 => ⟨_, rfl, ?_⟩⟩
          have s57 := s6.trans s7
          have hw7 := s57 _ _ hw5
          have hl7 := s57 _ _ hl5
          cases en1 : nameS a1 with
          | false => exact iteT (iteT (k1 (bad2 (if_pos (by simp [en1]))) _ (sH5.trans s57)))
          | true =>
          refine iteF ⟨_, rfl, ww, _, 1, .str a1, rfl, rfl, SqL.of hw7, atI_nat (j := 1) rfl, _, rfl, lr, rfl, ⟨_, SqL.of hl7⟩, fun D hD => ?_⟩
          refine lc_acc walk_list hD (fun H' s => SqL.of (s _ _ hl7)) (fun j => (rr.take j).map fun r => V.str r.2.1) rfl (fun j hj => ?_) ?_ ?_
          · rw [List.length_map]
            exact Nat.lt_of_le_of_lt (Nat.le_trans (List.length_take_le' _ _) (Nat.le_trans hri (show i ≤ 1001 by omega))) (by decide)
          · rintro j y H8 hj hy s8 R S r1 r2
            have hy : (rr.map fun r => V.ref r.1)[j]? = some y := hy
            rw [List.getElem?_map] at hy
            obtain ⟨r, hr', rfl⟩ := Option.map_eq_some_iff.mp hy
            have hrow := (hrr5 r (List.mem_of_getElem? hr')).1.1
            refine ⟨rfl, tyes ⟨_, rfl, r.1, _, 0, .str r.2.1, rfl, rfl, SqL.of (s8 _ _ (s57 _ _ hrow)), atI_nat (j := 0) rfl, r1 _ _ ?_ (Same.refl _)⟩⟩
            rw [List.take_add_one, hr', List.map_append]
            rfl
          intro H8 s8 hD8
          rw [List.length_map, List.take_of_length_le (Nat.le_refl _)] at hD8
          have hD8 : H8 D = some (.lst ((rr.map (·.2.1)).map V.str)) := by
            rw [hD8, List.map_map]
            rfl
          have s58 := s57.trans s8
          refine ⟨D, _, rfl, .inl (SqL.of hD8), rfl, flat_strs _, _, rfl, ?_⟩
          rw [if_neg Bool.false_ne_true, in_rows]
          have em : decide (a1 ∈ (rr.map nsp).map (·.1)) = decide (a1 ∈ rr.map (·.2.1)) := by
            rw [List.map_map]
            rfl
          rw [em] at hf bad2
          cases ei : decide (a1 ∈ rr.map (·.2.1)) with
          | true => exact iteT (k1 (bad2 (if_pos (by simp [ei]))) _ (sH5.trans s58))
          | false =>
            rw [if_neg (by simp [ei, en1, hr0])] at hf
            have hw8 := s58 _ _ hw5
            exact iteF ⟨_, rfl, ww, _, 1, .str a1, rfl, rfl, SqL.of hw8, atI_nat (j := 1) rfl, rr, some a1, _, _, _, rfl, sx5.trans (.of s58), s58 _ _ hl5, fun r hr' => ⟨⟨s58 _ _ (hrr5 r hr').1.1, s58 _ _ (hrr5 r hr').1.2⟩, (hrr5 r hr').2⟩, hf, Nat.le_succ_of_le hri⟩
        · rw [erd] at hf bad2
          have bad2 : (if badE (rr.map nsp) a0 sp = true then none else some (rr.map nsp ++ [(a0, sp)], none) : Option RdQ) = none → lawC t = none := bad2
          have hf : (if badE (rr.map nsp) a0 sp = true then none else some (rr.map nsp ++ [(a0, sp)], none) : Option RdQ).bind (foldI itemL ((Txt.split t "; ").drop (i + 1))) = foldI itemL (Txt.split t "; ") ([], none) := hf
          have hw6 := s6 _ _ hw5
          have hl6 := s6 _ _ hl5
          refine ⟨_, rfl, rfl, _, rfl, iteT ?_⟩
          refine ⟨_, rfl, lr, rfl, ⟨_, SqL.of hl6⟩, fun D hD => ?_⟩
          refine lc_acc walk_list hD (fun H' s => SqL.of (s _ _ hl6)) (fun j => ((rr.take j).filter fun x => leS a0 x.2.1 || meetL x.2.2.2 sp).map fun r => V.ref r.1) rfl (fun j hj => ?_) ?_ ?_
          · rw [List.length_map]
            exact Nat.lt_of_le_of_lt (Nat.le_trans (List.length_filter_le _ _) (Nat.le_trans (List.length_take_le' _ _) (Nat.le_trans hri (show i ≤ 1001 by omega)))) (by decide)
          · rintro j y H8 hj hy s8 R S r1 r2
            have hy : (rr.map fun r => V.ref r.1)[j]? = some y := hy
            rw [List.getElem?_map] at hy
            obtain ⟨r, hr', rfl⟩ := Option.map_eq_some_iff.mp hy
            obtain ⟨hrow1, hrow2⟩ := (hrr5 r (List.mem_of_getElem? hr')).1
            have s68 := s6.trans s8
            refine ⟨rfl, _, rfl, r.1, _, 0, .str r.2.1, rfl, rfl, SqL.of (s68 _ _ hrow1), atI_nat (j := 0) rfl, _, rfl, ww, _, 0, .str a0, rfl, rfl, SqL.of (s68 _ _ hw5), atI_nat (j := 0) rfl, _, _, rfl, rfl, _, rfl, ?_⟩
            rw [← leS_dec]
            have tk : ((rr.take (j + 1)).filter fun x => leS a0 x.2.1 || meetL x.2.2.2 sp) = ((rr.take j).filter fun x => leS a0 x.2.1 || meetL x.2.2.2 sp) ++ (if (leS a0 r.2.1 || meetL r.2.2.2 sp) = true then [r] else []) := by
              rw [List.take_add_one, hr', List.filter_append]
              congr 1
              simp [List.filter_cons]
            cases e1 : leS a0 r.2.1 with
            | true =>
              rw [e1, Bool.true_or, if_pos rfl] at tk
              exact iteT ⟨_, rfl, r1 _ _ (by rw [tk, List.map_append]; rfl) (Same.refl _)⟩
            | false =>
              rw [e1, Bool.false_or] at tk
              refine iteF ⟨_, rfl, r.1, _, 1, .ref r.2.2.1, rfl, rfl, SqL.of (s68 _ _ hrow1), atI_nat (j := 1) rfl, _, rfl, r.2.2.1, pa, r.2.2.2, sp, rfl, SqT.of (s68 _ _ hrow2), SqT.of (s8 _ _ hpa), fun H9 s9 => ⟨_, rfl, ?_⟩⟩
              cases e2 : meetL r.2.2.2 sp with
              | true =>
                rw [e2, if_pos rfl] at tk
                exact iteT ⟨_, rfl, r1 _ _ (by rw [tk, List.map_append]; rfl) s9⟩
              | false =>
                rw [e2, if_neg Bool.false_ne_true, List.append_nil] at tk
                exact iteF (r2 _ (by rw [tk]) s9)
          intro H8 s8 hD8
          rw [List.length_map, List.take_of_length_le (Nat.le_refl _)] at hD8
          refine ⟨Nat.zero_le _, fun e0 he0 => ?_⟩
          have s9 := same_new (o := .lst []) he0
          have s69 := s6.trans (s8.trans s9)
          have hrr9 : ∀ r ∈ rr, rowAt (upd H8 e0 (.lst [])) r ∧ nameS r.2.1 = true := fun r hr' => ⟨⟨s69 _ _ (hrr5 r hr').1.1, s69 _ _ (hrr5 r hr').1.2⟩, (hrr5 r hr').2⟩
          refine ⟨_, _, .lst (SqL.of (s9 _ _ hD8)) (md_dp fun r hr' => (hrr9 r (List.mem_filter.mp hr').1).1), .lst (SqL.of upd_same) .nil, md_sh (fun r hr' => (hrr9 r (List.mem_filter.mp hr').1).2), shaped_nil, _, rfl, ?_⟩
          rw [eqv_nil, List.isEmpty_map, bad_filter]
          cases eb : badE (rr.map nsp) a0 sp with
          | true => exact iteT (k1 (bad2 (if_pos eb)) _ (sH5.trans s69))
          | false =>
            rw [if_neg (by rw [eb]; exact Bool.false_ne_true)] at hf
            have hl9 := s69 _ _ hl5
            have hw9 := s69 _ _ hw5
            have hpa9 := s9 _ _ (s8 _ _ hpa)
            generalize upd H8 e0 (.lst []) = H9 at s69 hrr9 hl9 hw9 hpa9
            refine iteF ⟨_, rfl, .inl ⟨rfl, _, .inl (.inl hl9)⟩, _, rfl, ww, _, 0, .str a0, rfl, rfl, SqL.of hw9, atI_nat (j := 0) rfl, _, rfl, (by show 2 ≤ sizeLine; decide), fun nl hnl => ?_⟩
            have s10 := same_new (o := .lst [.str a0, .ref pa]) hnl
            have hnl10 : (upd H9 nl (.lst [.str a0, .ref pa])) nl = some (.lst [.str a0, .ref pa]) := upd_same
            have nne : nl ≠ lr := (ne_of_none hl9 hnl).symm
            generalize upd H9 nl (.lst [.str a0, .ref pa]) = H10 at s10 hnl10 ⊢
            have hl10 := s10 _ _ hl9
            have hpa10 := s10 _ _ hpa9
            have s610 := s69.trans s10
            refine ⟨lr, _, _, rfl, rfl, hl10, ?_, rr ++ [(nl, a0, pa, sp)], none, _, _, _, rfl, fun b u nb e => ?_, ?_, fun r hr' => ?_, ?_, ?_⟩
            · rw [List.length_map]
              exact Nat.lt_of_le_of_lt (Nat.le_trans hri (show i ≤ 1001 by omega)) (by decide)
            · rw [upd_ne (by simpa using nb)]
              exact s610 _ _ (sx5 _ _ nb e)
            · rw [upd_same, List.map_append]
              rfl
            · rcases List.mem_append.mp hr' with hr' | hr'
              · obtain ⟨⟨q1, q2⟩, q3⟩ := hrr9 r hr'
                have q1 := s10 _ _ q1
                have q2 := s10 _ _ q2
                exact ⟨⟨by rw [upd_ne (row_ne_list q1 hl10)]; exact q1, by rw [upd_ne (ne_of q2 hl10 (by intro z; cases z))]; exact q2⟩, q3⟩
              · rw [List.mem_singleton.mp hr']
                exact ⟨⟨by rw [upd_ne nne]; exact hnl10, by rw [upd_ne (ne_of hpa10 hl10 (by intro z; cases z))]; exact hpa10⟩, en⟩
            · rw [List.map_append]
              exact hf
            · rw [List.length_append]
              exact Nat.succ_le_succ hri
      · rintro σ H3 ⟨rr, rt, v3, v4, v5, rfl, sx, hl3, hrr, hf, hri⟩
        have sH3 : Same H H3 := fun b u e => sx _ _ (by
          have h2 : b ≠ lr := fun z => by rw [z, hlr] at e; cases e
          simpa using h2) (s12 _ _ e)
        rw [List.length_map] at hf hri
        rw [List.drop_of_length_le (Nat.le_refl _)] at hf
        have ep2 : lawC t = if 8 < (rr.map nsp).length + rt.toList.length then none else some (rr.map nsp, rt) := by
          rw [ep, ← hf]
          rfl
        rw [List.length_map] at ep2
        refine ⟨_, rfl, lr, _, rfl, .inl (SqL.of hl3), _, rfl, rfl, .inr ⟨_, rfl, ?_⟩⟩
        refine ⟨_, _, rfl, rfl, _, _, rfl, rfl, _, rfl, ?_⟩
        have ee : ((rr.map fun r => V.ref r.1).length : Int) + (if (!decide (rvO rt = V.non)) = true then 1 else 0) = ((rr.length + rt.toList.length : Nat) : Int) := by
          rw [List.length_map]
          cases rt <;> simp [rvO]
        rw [ee]
        by_cases h8 : 8 < rr.length + rt.toList.length
        · exact iteTe (decide_eq_true (by omega)) (k1 (by rw [ep2, if_pos h8]) _ sH3)
        · exact iteFe (decide_eq_false (by omega)) ⟨_, rfl, _, rfl, (by show 2 ≤ sizeLine; decide), fun q hq => k2 _ (by rw [ep2, if_neg h8]) _ q (sH3.trans (same_new hq)) ⟨lr, rr, upd_same, same_new hq _ _ hl3, fun r hr' => ⟨same_new hq _ _ (hrr r hr').1.1, same_new hq _ _ (hrr r hr').1.2⟩, rfl⟩⟩
theorem ok_law (T : Txt K mg base) : FnOk P w K mg base CX0 14 T.f_law T.fd_law ["_law_script"] (sp_lawT K T.pt_all_stretches) := by
  refine T.F_law.ok sc_law (fun vs H Q E h => ?_) (fun cdv A outer s H vs Q E hr h => ?_)
  · obtain ⟨a, ns, rfl, _⟩ := h
    rfl
  · obtain ⟨a, ns, rfl, hA, hns, hT, k⟩ := h
    refine ⟨_, (pss_cons (ps_for PassesOwn.never rfl (pi_range1 rfl T.z_range (pa_cons (pe_callB (id := "max") (call_max2 rfl) (by rfl) T.z_max (by decide +kernel) (pa_cons pe_int (pa_cons (pe_callB (id := "min") (call_min2 rfl) (by rfl) T.z_min (by decide +kernel) (pa_cons pe_int (pa_cons (pe_callB (id := "len") call_len_seq (by rfl) T.z_len (by decide +kernel) (pa_cons (pv 0) pa_nil)) pa_nil))) pa_nil))) pa_nil)) (pg_name (i := 1) sc_law.nd rfl (Or.inl rfl))
          (pss_cons (ps_set (i := 2) sc_law.nd rfl (Or.inl rfl) (pe_call (ok_law_box T) (hr.mono (by decide)) rfl T.m_law_box T.F_law_box.kp T.b_law_box .nil pass0 (pa_cons (pe_call (ok_law_cell T) (hr.mono (by decide)) rfl T.m_law_cell T.F_law_cell.kp T.b_law_cell .nil pass0 (pa_cons (pv 0) (pa_cons (pv 1) pa_nil))) pa_nil)))
        (pss_cons (ps_set (i := 3) sc_law.nd rfl (Or.inl rfl) (pe_call (ok_law_model T) (hr.mono (by decide)) rfl T.m_law_model T.F_law_model.kp T.b_law_model .nil pass0 (pa_cons (pv 2) (pa_cons pe_int pa_nil))))
        (pss_cons (ps_set (i := 4) sc_law.nd rfl (Or.inl rfl) (pe_op op_cat (pe_lc (own := [("_law_row", 14)]) (g := gName 14) (tt := tYes) rfl sc_law.nd (pi_list (pe_ix ix_list (pv 3) pe_int (fun _ _ => rfl))) (blkOk_by (own := [("_law_row", 14)]) (N := ["_law_script", "_law_k", "_law_box_here", "_law_model_here", "_law_words", "_law_plain1", "_law_catalog_here", "_law_text_here", "_law_turn", "_law_bent_here", "_law_due", "_law_told_here", "_law_made", "_law_odd", "_law_row"]) (sc := defScope s_law) (by decide +kernel)) (fun _ _ _ _ _ => (pg_name (i := 14) sc_law.nd rfl (Or.inl rfl))) (fun _ _ _ _ _ => pts_nil) (fun _ _ _ _ _ => (pe_ix (r := rIxL K) ix_list (pv 14) pe_int (fun _ _ => rfl)))) (pe_lst (pa_cons (pe_ix ix_list (pv 3) pe_int (fun _ _ => rfl)) pa_nil))))
        (pss_cons (ps_set (i := 5) sc_law.nd rfl (Or.inl rfl) (pe_and (pe_cmpR op_notIn_seq pe_str (pv 4) (by rfl)) (pe_one (pe_cmpR op_notIn_seq pe_str (pv 4) (by rfl)))))
        (C8.pss_cut (ps_if (PW.pt (pw_and (pt_cmpR op_eq (pe_call (ok_law_take T) (hr.mono (by decide)) rfl T.m_law_take T.F_law_take.kp T.b_law_take .nil pass0 (pa_cons (pv 2) (pa_cons pe_int pa_nil))) pe_int (nomark _)) (pw_and (pt_cmpR (op_neD hr.units) (pe_ix ix_list (pv 3) pe_int (fun _ _ => rfl)) (pe_lst pa_nil) (nomark _)) (pw_and1 (pt_val (pv 5)))))) (pss_one (ps_set (i := 3) sc_law.nd rfl (Or.inl rfl) (pe_lst (pa_cons (pe_op op_cat (pe_lst (pa_cons (pe_lst (pa_cons pe_str (pa_cons (pe_ix ix_list (pe_ix ix_list (pe_ix ix_list (pv 3) pe_int (fun _ _ => rfl)) pe_int (fun _ _ => rfl)) pe_int (fun _ _ => rfl)) pa_nil))) pa_nil)) (pe_slice sl_list (pe_ix ix_list (pv 3) pe_int (fun _ _ => rfl)) (po_some pe_int) po_none)) (pa_cons (pe_ix ix_list (pe_lst (pa_cons pe_non (pa_cons pe_str pa_nil))) (pe_call (ok_law_take T) (hr.mono (by decide)) rfl T.m_law_take T.F_law_take.kp T.b_law_take .nil pass0 (pa_cons (pv 2) (pa_cons pe_int pa_nil))) (fun _ _ => rfl)) (pa_cons (pe_lst pa_nil) pa_nil)))))) pss_nil)
        (pss_cons (ps_par (i := 6) (j := 7) (by rfl) sc_law.nd rfl rfl (by decide) rfl rfl (pa_cons (pe_call (ok_law_catalog T) (hr.mono (by decide)) rfl T.m_law_catalog T.F_law_catalog.kp T.b_law_catalog .nil pass0 (pa_cons (pv 2) (pa_cons (pv 3) pa_nil))) (pa_cons (pe_call (ok_law_text T) (hr.mono (by decide)) rfl T.m_law_text T.F_law_text.kp T.b_law_text .nil pass0 (pa_cons (pv 3) pa_nil)) pa_nil)) (by rfl))
        (pss_cons (ps_if (PW.pt (pw_or (pt_cmpR op_ne (pe_callTy (T := "str") (call_strI (ok_Catalog_str T) (hr.mono (by decide)) T.b_Catalog_str T.me_Catalog_str.at_ T.me_Catalog_str.fn pass0) (by rfl) T.z_str (by decide +kernel) (pa_cons (pv 6) pa_nil)) (pv 7) (nomark _)) (pw_or1 (pt_not (pt_cmpR (op_eqI (ok_Catalog_eq T) (hr.mono (by decide)) T.b_Catalog_eq T.me_Catalog_eq.at_ T.me_Catalog_eq.fn pass0) (pe_call (ok_read_catalog T) (hr.mono (by decide)) rfl T.m_read_catalog T.F_read_catalog.kp T.b_read_catalog .nil passL (pa_cons (pv 7) pa_nil)) (pv 6) (nomark _)))))) (pss_one (ps_ret pe_bl)) pss_nil)
        (pss_cons (ps_for PassesOwn.never rfl (pi_range1 rfl T.z_range (pa_cons pe_int pa_nil)) (pg_name (i := 8) sc_law.nd rfl (Or.inl rfl))
          (C8.pss_cut (ps_set (i := 9) sc_law.nd rfl (Or.inl rfl) (pe_call (ok_law_bent T) (hr.mono (by decide)) rfl T.m_law_bent T.F_law_bent.kp T.b_law_bent .nil pass0 (pa_cons (pv 2) (pa_cons (pe_ifExp (pt_cmpR op_lt (pv 8) pe_int (nomark _)) (pv 7) (pe_call (ok_law_bent T) (hr.mono (by decide)) rfl T.m_law_bent T.F_law_bent.kp T.b_law_bent .nil pass0 (pa_cons (pv 2) (pa_cons (pv 7) pa_nil)))) pa_nil))))
        (pss_cons (ps_set (i := 10) sc_law.nd rfl (Or.inl rfl) (pe_call (ok_law_read T) (hr.mono (by decide)) rfl T.m_law_read T.F_law_read.kp T.b_law_read .nil pass0 (pa_cons (pv 9) pa_nil)))
        (pss_cons (ps_set (i := 11) sc_law.nd rfl (Or.inl rfl) (pe_call (ok_law_told T) hr rfl T.m_law_told T.F_law_told.kp T.b_law_told .nil pass0 (pa_cons (pv 9) pa_nil)))
        (pss_cons (ps_if (PW.pt (pw_or (PW.pt (pw_and (pt_cmpR op_isN (pv 10) pe_non (nomark _)) (pw_and1 (pt_cmpR (op_ne2 hr.units) (pv 11) (pe_lst (pa_cons pe_str (pa_cons (pv 9) pa_nil))) (nomark _))))) (pw_or1 (PW.pt (pw_and (pt_cmpR op_notN (pv 10) pe_non (nomark _)) (pw_and1 (pt_cmpR op_ne (pe_ix ix_list (pv 11) pe_int (fun _ _ => rfl)) pe_str (nomark _)))))))) (pss_one (ps_ret pe_bl)) pss_nil)
        (pss_one (ps_if (pt_cmpR op_notN (pv 10) pe_non (nomark _)) (pss_cons (ps_set (i := 12) sc_law.nd rfl (Or.inl rfl) (pe_makeKS T.mk_Catalog (ok_Catalog_init T) (hr.mono (by decide)) rfl T.g_Catalog T.kb_Catalog_init_2_rest (passAt_of passLN) (pa_cons (pe_callTy (T := "dict") (call_dictP rfl) (by rfl) T.z_dict (by decide +kernel) (pa_cons (pe_lc (own := [("_law_row", 14)]) (g := gName 14) (tt := tYes) rfl sc_law.nd (pi_list (pe_ix ix_list (pv 10) pe_int (fun _ _ => rfl))) (blkOk_by (own := [("_law_row", 14)]) (N := ["_law_script", "_law_k", "_law_box_here", "_law_model_here", "_law_words", "_law_plain1", "_law_catalog_here", "_law_text_here", "_law_turn", "_law_bent_here", "_law_due", "_law_told_here", "_law_made", "_law_odd", "_law_row"]) (sc := defScope s_law) (by decide +kernel)) (fun _ _ _ _ _ => (pg_name (i := 14) sc_law.nd rfl (Or.inl rfl))) (fun _ _ _ _ _ => pts_nil) (fun _ _ _ _ _ => (pe_callTy (T := "tuple") (r := rTupOfN K) call_tuple_of (by rfl) T.z_tuple (by decide +kernel) (pa_cons (pv 14) pa_nil)))) pa_nil)) pa_nil) (pk_cons (pe_ix ix_list (pv 10) pe_int (fun _ _ => rfl)) pk_nil)))
        (pss_one (ps_if (PW.pt (pw_or (pt_not (pt_cmpR (op_eqI (ok_Catalog_eq T) (hr.mono (by decide)) T.b_Catalog_eq T.me_Catalog_eq.at_ T.me_Catalog_eq.fn pass0) (pe_ix ix_list (pv 11) pe_int (fun _ _ => rfl)) (pv 12) (nomark _))) (pw_or1 (pt_cmpR op_ne (pe_callTy (T := "str") (call_strI (ok_Catalog_str T) (hr.mono (by decide)) T.b_Catalog_str T.me_Catalog_str.at_ T.me_Catalog_str.fn pass0) (by rfl) T.z_str (by decide +kernel) (pa_cons (pe_ix ix_list (pv 11) pe_int (fun _ _ => rfl)) pa_nil)) (pv 9) (nomark _))))) (pss_one (ps_ret pe_bl)) pss_nil))) pss_nil)))))))
        (pss_cons (ps_set (i := 13) sc_law.nd rfl (Or.inl rfl) (pe_ix ix_list (pe_lst (pa_cons pe_non (pa_cons pe_int (pa_cons pe_bl (pa_cons (pe_lst (pa_cons (pv 7) pa_nil)) (pa_cons pe_str (pa_cons pe_str (pa_cons pe_str (pa_cons (pv 6) (pa_cons pe_dnewK (pa_cons pe_str pa_nil))))))))))) (pe_call (ok_law_take T) (hr.mono (by decide)) rfl T.m_law_take T.F_law_take.kp T.b_law_take .nil pass0 (pa_cons (pv 2) (pa_cons pe_int pa_nil))) (fun _ _ => rfl)))
        (pss_one (ps_if (pt_cmpR (op_ne2 hr.units) (pe_call (ok_law_told T) hr rfl T.m_law_told T.F_law_told.kp T.b_law_told .nil pass0 (pa_cons (pv 13) pa_nil)) (pe_lst (pa_cons pe_str (pa_cons (pv 13) pa_nil))) (nomark _)) (pss_one (ps_ret pe_bl)) pss_nil))))))))))))
        (pss_one (ps_ret pe_bl))), ?_⟩
    refine ⟨_, rfl, a, _, rfl, .inl hA, _, _, rfl, _, _, rfl, _, rfl, ?_, ?_, for_range (fun i σ H' => ∃ v1 v2 v3 v4 v5 v6 v7 v8 v9 v10 v11 v12 v13, σ = [some (.ref a), v1, v2, v3, v4, v5, v6, v7, v8, v9, v10, v11, v12, v13, none] ∧ SqL K H' a (ns.map V.int) ∧ LamX.TabS H' T.pt_all_stretches lamQ) ⟨none, none, none, none, none, none, none, none, none, none, none, none, none, rfl, hA, hT⟩ ?_ ?_⟩
    · repeat' split
      all_goals omega
    · repeat' split
      all_goals omega
    · rintro i σ H1 hi ⟨v1, v2, v3, v4, v5, v6, v7, v8, v9, v10, v11, v12, v13, rfl, hA1, hT1⟩
      refine ⟨_, rfl, _, rfl, a, ns, _, rfl, hA1, (by omega), fun z => ⟨z, rfl, fun p o hp bx => ?_⟩⟩
      have s2 := same_new (o := o) hp
      have A2 : SqL K (nb (upd H1 p o) p) a (ns.map V.int) := (nd_nb s2 hp).seq hA1
      have S2 : LS (upd H1 p o) p 0 T.pt_all_stretches := ⟨bx, hT1.ext s2⟩
      generalize upd H1 p o = H2 at A2 S2
      -- the model
      have B2 := S2.box.in_
      refine ⟨_, rfl, but H2 p, p, 0, 6, rfl, B2, by omega, by omega, fun G0 H3 q rr rt left sG BG MM hrr hll hsm => ?_⟩
      have B3 : BoxIn (but H2 p) H3 p (0 + 100) := BG.low sG
      have S3 := S2.after B3
      have A3 := (nb_ex (ex_of B3)).seq A2
      have M3 : MdAt (nb H3 p) q rr rt left := MM.ofND (nd_nb BG.same BG.free)
      clear MM sG BG B3 B2 S2 A2 s2
      have hG : G8 rr rt := G8.ofMd M3 (by omega)
      have hsm1 : ∀ r ∈ rr, smO r.2.2.2.1 ∧ smO r.2.2.2.2 := fun r hr' => by
        have := hsm _ (List.mem_map.mpr ⟨r, hr', rfl⟩)
        exact ⟨smI_O this.2.1, smI_O this.2.2⟩
      have M3g := MG.ofMd M3
      clear hsm hll M3
      -- the words
      obtain ⟨⟨lr, ys, hq, hlr⟩, hrows⟩ := M3g.mono (nb_le H3 p)
      refine ⟨_, rfl, q, _, 0, .ref lr, rfl, rfl, SqL.of hq, atI_nat (j := 0) rfl, lr, rfl, ⟨_, SqL.of hlr⟩, fun D hD => ?_⟩
      refine lc_acc walk_list hD (fun H' s => SqL.of (s _ _ hlr)) (fun j => (rr.take j).map fun r => V.str r.2.1) rfl (fun j hj => ?_) ?_ ?_
      · rw [List.length_map]
        exact Nat.lt_of_le_of_lt (Nat.le_trans (List.length_take_le' _ _) hrr) (by decide)
      · rintro j y H8 hj hy s8 R S r1 r2
        have hy : (rr.map fun r => V.ref r.1)[j]? = some y := hy
        rw [List.getElem?_map] at hy
        obtain ⟨r, hr', rfl⟩ := Option.map_eq_some_iff.mp hy
        refine ⟨rfl, tyes ⟨_, rfl, r.1, _, 0, .str r.2.1, rfl, rfl, SqL.of (s8 _ _ (hrows r (List.mem_of_getElem? hr')).1), atI_nat (j := 0) rfl, r1 _ _ ?_ (Same.refl _)⟩⟩
        rw [List.take_add_one, hr', List.map_append]
        rfl
      intro H4 s4 hD4
      rw [List.length_map, List.take_of_length_le (Nat.le_refl _)] at hD4
      refine ⟨_, rfl, q, _, 1, rvO rt, rfl, rfl, SqL.of (s4 _ _ hq), atI_nat (j := 1) rfl, (by show 1 ≤ sizeLine; decide), fun l hl => ?_⟩
      have s5 := same_new (o := .lst [rvO rt]) hl
      refine ⟨D, l, _, _, rfl, rfl, s5 _ _ hD4, upd_same, ?_, fun wl hwl => ?_⟩
      · rw [List.length_map]
        exact Nat.le_trans (show rr.length + 1 ≤ 100 by omega) (by decide)
      have s6 := same_new (o := .lst ((rr.map fun r => V.str r.2.1) ++ [rvO rt])) hwl
      have hwl6 : (upd (upd H4 l (.lst [rvO rt])) wl (.lst ((rr.map fun r => V.str r.2.1) ++ [rvO rt]))) wl = some (.lst ((rr.map fun r => V.str r.2.1) ++ [rvO rt])) := upd_same
      have sA := s4.trans (s5.trans s6)
      generalize upd (upd H4 l (.lst [rvO rt])) wl (.lst ((rr.map fun r => V.str r.2.1) ++ [rvO rt])) = H6 at sA hwl6 ⊢
      clear s4 s5 s6 hl hwl hD4
      have S6 := S3.keep sA
      have E6 : EX [p] H3 H6 := .same sA
      have M6 := M3g.mono (nb_ex E6)
      have hfl : ((rr.map fun r => V.str r.2.1) ++ [rvO rt]).all flatV = true := by
        rw [List.all_append, List.all_map]
        cases rt <;> simp [rvO, flatV]
      refine seq_asg (and_words rfl hwl6 hfl fun c hc => ?_)
      refine ⟨fun σ H' => ∃ (q' : Addr) (rr' : List MRow) (rt' : Option Str), σ = [some (.ref a), some (.int (0 + (i : Int))), some (.ref p), some (.ref q'), some (.ref wl), some (.bl c), v6, v7, v8, v9, v10, v11, v12, v13, none] ∧ EX [p] H3 H' ∧ LS H' p 110 T.pt_all_stretches ∧ MG (nb H' p) q' rr' rt' ∧ G8 rr' rt' ∧ rr'.length ≤ 6 ∧ (∀ r ∈ rr', smO r.2.2.2.1 ∧ smO r.2.2.2.2), ?_, ?_⟩
      · refine ⟨_, rfl, but H6 p, p, _, 5, rfl, S6.box.in_, by omega, by decide, by decide, fun z2 H7 z20 z21 B7 => ⟨rfl, _, rfl, ?_⟩⟩
        have S7 := S6.after B7
        have E67 := ex_of B7
        have E7 := E6.trans E67
        have M7 := M6.mono (nb_ex E67)
        have same : ∀ H', EX [p] H7 H' → LS H' p 110 T.pt_all_stretches → ∃ (q' : Addr) (rr' : List MRow) (rt' : Option Str), ([some (.ref a), some (.int (0 + (i : Int))), some (.ref p), some (.ref q), some (.ref wl), some (.bl c), v6, v7, v8, v9, v10, v11, v12, v13, none] : L2.St) = [some (.ref a), some (.int (0 + (i : Int))), some (.ref p), some (.ref q'), some (.ref wl), some (.bl c), v6, v7, v8, v9, v10, v11, v12, v13, none] ∧ EX [p] H3 H' ∧ LS H' p 110 T.pt_all_stretches ∧ MG (nb H' p) q' rr' rt' ∧ G8 rr' rt' ∧ rr'.length ≤ 6 ∧ (∀ r ∈ rr', smO r.2.2.2.1 ∧ smO r.2.2.2.2) := fun H' e S => ⟨q, rr, rt, rfl, E7.trans e, S, M7.mono (nb_ex e), hG, hrr, hsm1⟩
        by_cases hz : z2 = 0
        case neg => exact iteFe (decide_eq_false fun z => hz (V.int.inj z)) (iteF (same H7 (.same (Same.refl _)) (S7.mono (by omega))))
        obtain ⟨⟨lr7, ys7, hq7, hlr7⟩, hrows7⟩ := M7.mono (nb_le H7 p)
        refine iteTe (by rw [hz]; rfl) ⟨_, rfl, q, _, 0, .ref lr7, rfl, rfl, SqL.of hq7, atI_nat (j := 0) rfl, Nat.zero_le _, fun e0 he0 => ?_⟩
        have s8 := same_new (o := .lst []) he0
        have S8 := S7.keep s8
        refine ⟨_, _, .lst (SqL.of (s8 _ _ hlr7)) (md_dp fun r hr' => ⟨s8 _ _ (hrows7 r hr').1, s8 _ _ (hrows7 r hr').2⟩), .lst (SqL.of upd_same) .nil, md_sh (fun r hr' => hG.nms _ (List.mem_append_left _ (List.mem_map.mpr ⟨r, hr', rfl⟩))), shaped_nil, _, rfl, ?_⟩
        rw [eqv_nil, List.isEmpty_map]
        cases hem : rr.isEmpty with
        | true => exact iteF (iteF (same _ (.same s8) (S8.mono (by omega))))
        | false =>
        refine iteT ⟨_, rfl, _, rfl, ?_⟩
        cases c with
        | false => exact iteF (same _ (.same s8) (S8.mono (by omega)))
        | true =>
          obtain ⟨w1, w2⟩ := hc rfl
          have f1 := inV_words w1
          have f2 := inV_words w2
          have r1s : (1 : Nat) ≤ sizeLine := by decide
          have r2s : (2 : Nat) ≤ sizeLine := by decide
          have r3s : (3 : Nat) ≤ sizeLine := by decide
          obtain ⟨r0, rr0, rfl⟩ : ∃ r0 rr0, rr = r0 :: rr0 := by
            cases rr with
            | nil => cases hem
            | cons x y => exact ⟨x, y, rfl⟩
          have M8 := M7.mono (nb_ex (.same s8))
          have E8 := E7.trans (.same s8)
          have hq8 := s8 _ _ hq7
          have hlr8 : (upd H7 e0 (.lst [])) lr7 = some (.lst (V.ref r0.1 :: rr0.map fun r => V.ref r.1)) := s8 _ _ hlr7
          have hrow8 := s8 _ _ (hrows7 r0 List.mem_cons_self).1
          have hsp8 := s8 _ _ (hrows7 r0 List.mem_cons_self).2
          generalize upd H7 e0 (.lst []) = H8 at S8 M8 E8 hq8 hlr8 hrow8 hsp8 ⊢
          refine iteT ⟨_, rfl, q, _, 0, .ref lr7, rfl, rfl, SqL.of hq8, atI_nat (j := 0) rfl, lr7, _, 0, .ref r0.1, rfl, rfl, SqL.of hlr8, atI_nat (j := 0) rfl, r0.1, _, 1, .ref r0.2.2.1, rfl, rfl, SqL.of hrow8, atI_nat (j := 1) rfl, r2s, fun n1 hn1 => ⟨r1s, fun l1 hl1 => ?_⟩⟩
          have u1 := same_new (o := .lst [.str "rest", .ref r0.2.2.1]) hn1
          have u2 := same_new (o := .lst [.ref n1]) hl1
          have g1 := u2 _ _ (upd_same (H := H8) (a := n1) (o := .lst [.str "rest", .ref r0.2.2.1]))
          have g2 : (upd (upd H8 n1 (.lst [.str "rest", .ref r0.2.2.1])) l1 (.lst [.ref n1])) l1 = some (.lst [.ref n1]) := upd_same
          have u12 := u1.trans u2
          have nn1 := S8.ne hn1
          generalize upd (upd H8 n1 (.lst [.str "rest", .ref r0.2.2.1])) l1 (.lst [.ref n1]) = H9 at u12 g1 g2 ⊢
          have S9 := S8.keep u12
          refine ⟨_, rfl, q, _, 0, .ref lr7, rfl, rfl, SqL.of (u12 _ _ hq8), atI_nat (j := 0) rfl, 1, rfl, lr7, _, rfl, SqL.of (u12 _ _ hlr8), fun m hm => ?_⟩
          have ecut : cutV (V.ref r0.1 :: rr0.map fun r => V.ref r.1) (some 1) none = rr0.map fun r => V.ref r.1 := cut_dropV _ (i := 1) (by simp)
          rw [ecut]
          have u3 := same_new (o := .lst (rr0.map fun r => V.ref r.1)) hm
          have u13 := u12.trans u3
          refine ⟨l1, m, _, _, rfl, rfl, u3 _ _ g2, upd_same, ?_, fun nl hnl => ⟨r2s, fun l2 hl2 => ?_⟩⟩
          · rw [List.length_map]
            have h6 : (r0 :: rr0).length ≤ 6 := hrr
            rw [List.length_cons] at h6
            exact Nat.le_trans (show 1 + rr0.length ≤ 100 by omega) (by decide)
          have u4 := same_new (o := .lst ([V.ref n1] ++ rr0.map fun r => V.ref r.1)) hnl
          have u5 := same_new (o := .lst [V.non, .str "empty"]) hl2
          have nnl : nl ≠ p := S8.ne (u13.free hnl)
          have nl2 : l2 ≠ p := S8.ne (u13.free (u4.free hl2))
          have g4 := u5 _ _ (upd_same (H := upd H9 m (.lst (rr0.map fun r => V.ref r.1))) (a := nl) (o := .lst ([V.ref n1] ++ rr0.map fun r => V.ref r.1)))
          have g5 : (upd (upd (upd H9 m (.lst (rr0.map fun r => V.ref r.1))) nl (.lst ([V.ref n1] ++ rr0.map fun r => V.ref r.1))) l2 (.lst [V.non, .str "empty"])) l2 = some (.lst [V.non, .str "empty"]) := upd_same
          have g6 := u5 _ _ (u4 _ _ (u3 _ _ g1))
          have u15 := u13.trans (u4.trans u5)
          generalize upd (upd (upd H9 m (.lst (rr0.map fun r => V.ref r.1))) nl (.lst ([V.ref n1] ++ rr0.map fun r => V.ref r.1))) l2 (.lst [V.non, .str "empty"]) = H10 at u15 g4 g5 g6 ⊢
          have S10 := S8.keep u15
          refine ⟨_, rfl, but H10 p, p, _, 2, rfl, S10.box.in_, by omega, by decide, by decide, fun z3 H11 z30 z31 B11 => ?_⟩
          have S11 := S10.after B11
          have E11 : EX [p] H8 H11 := (EX.same u15).trans (ex_of B11)
          obtain ⟨v, hv, hvm⟩ := atI_in (xs := [V.non, .str "empty"]) z30 z31
          have g4 := B11.same _ _ (by rw [but_ne nnl]; exact g4)
          have g5 := B11.same _ _ (by rw [but_ne nl2]; exact g5)
          have g6 := B11.same _ _ (by rw [but_ne nn1]; exact g6)
          obtain ⟨rt1, rfl, hrt1⟩ : ∃ rt1 : Option Str, v = rvO rt1 ∧ (rt1 = none ∨ rt1 = some "empty") := by
            simp only [List.mem_cons, List.not_mem_nil, or_false] at hvm
            rcases hvm with rfl | rfl
            · exact ⟨none, rfl, .inl rfl⟩
            · exact ⟨some "empty", rfl, .inr rfl⟩
          refine ⟨l2, _, z3, rvO rt1, rfl, rfl, SqL.of g5, hv, Nat.zero_le _, fun l3 hl3 => ⟨r3s, fun q2 hq2 => ?_⟩⟩
          have u6 := same_new (o := .lst []) hl3
          have u7 := same_new (o := .lst [V.ref nl, rvO rt1, .ref l3]) hq2
          have u67 := u6.trans u7
          have nq2 : q2 ≠ p := S11.ne (u6.free hq2)
          have EA : EX [p] H8 (upd (upd H11 l3 (.lst [])) q2 (.lst [V.ref nl, rvO rt1, .ref l3])) := E11.trans (.same u67)
          have MA := M8.mono (nb_ex EA)
          have nbl : ∀ {b : Addr} {xs : List V}, b ≠ p → H11 b = some (.lst xs) → nb (upd (upd H11 l3 (.lst [])) q2 (.lst [V.ref nl, rvO rt1, .ref l3])) p b = some (.lst xs) := fun n e => nb_of n (u67 _ _ e) fun ps z => by cases z
          refine ⟨q2, (n1, "rest", r0.2.2) :: rr0, rt1, rfl, E8.trans EA, (S11.keep u67).mono (by omega), ⟨⟨nl, [.ref l3], nb_of nq2 upd_same (fun ps z => by cases z), nbl nnl g4⟩, fun r hr' => ?_⟩, ?_, hrr, fun r hr' => ?_⟩
          · rcases List.mem_cons.mp hr' with rfl | hr'
            · exact ⟨nbl nn1 g6, (MA.rows r0 List.mem_cons_self).2⟩
            · exact MA.rows r (List.mem_cons_of_mem _ hr')
          · have gn : ∀ s : Str, s ∈ rr0.map (·.2.1) → s ≠ ("rest" : Str) ∧ s ≠ ("empty" : Str) ∧ nameS s = true := fun s hs => by
              have hm : s ∈ namesM (r0 :: rr0) rt := List.mem_append_left _ (List.mem_cons_of_mem _ hs)
              exact ⟨fun e => f1 (by rw [← e]; exact hm), fun e => f2 (by rw [← e]; exact hm), hG.nms s hm⟩
            have nd0 : (rr0.map (·.2.1)).Nodup := by
              have := hG.nd
              unfold namesM at this
              rw [List.map_cons, List.cons_append] at this
              exact ((List.nodup_cons.mp this).2).sublist (List.sublist_append_left _ _)
            have en : nameS "empty" = true := by decide +kernel
            have ne : ("empty" : Str) ≠ "rest" := by decide +kernel
            refine hG.other (rr' := (n1, "rest", r0.2.2) :: rr0) rfl (fun s hs => ?_) ?_ (Nat.le_succ_of_le hrr)
            · unfold namesM at hs
              rw [List.map_cons, List.cons_append] at hs
              rcases List.mem_cons.mp hs with rfl | hs
              · exact rest_name
              · rcases List.mem_append.mp hs with hs | hs
                · exact (gn s hs).2.2
                · rcases hrt1 with rfl | rfl
                  · cases hs
                  · rw [List.mem_singleton.mp hs]
                    exact en
            · unfold namesM
              rw [List.map_cons, List.cons_append]
              refine List.nodup_cons.mpr ⟨fun hm => ?_, List.nodup_append.mpr ⟨nd0, ?_, fun x hx y hy e => ?_⟩⟩
              · rcases List.mem_append.mp hm with hm | hm
                · exact (gn _ hm).1 rfl
                · rcases hrt1 with rfl | rfl
                  · cases hm
                  · exact ne (List.mem_singleton.mp hm).symm
              · rcases hrt1 with rfl | rfl
                · exact List.nodup_nil
                · exact List.nodup_cons.mpr ⟨List.not_mem_nil, List.nodup_nil⟩
              · rcases hrt1 with rfl | rfl
                · cases hy
                · exact (gn x hx).2.1 (e.trans (List.mem_singleton.mp hy))
          · rcases List.mem_cons.mp hr' with rfl | hr'
            · exact hsm1 r0 List.mem_cons_self
            · exact hsm1 r (List.mem_cons_of_mem _ hr')
      rintro σ7 H7 ⟨q1, rr1, rt1, rfl, E7, S7, M7, G7, hl7, hsm7⟩
      clear hfl hc M6 E6 S6 hwl6 sA hG hsm1 M3g hq hlr hrows hD hrr
      have hnd := G7.ndM
      -- the catalog and its text
      refine ⟨_, rfl, _, rfl, p, _, q1, rr1, rt1, rfl, S7, M7, G7, by omega, fun H8 x rs E8 S8 C8 hpm => ?_⟩
      have M8 := M7.mono (nb_ex E8)
      refine ⟨_, rfl, q1, rr1, rt1, rfl, M8.mono (nb_le H8 p), G7, hsm7, fun H9 s9 => ⟨_, _, rfl, ?_⟩⟩
      have E9 := E7.trans (E8.trans (.same s9))
      have S9 := S8.keep s9
      have C9 := C8.mono (nb_ex (.same s9))
      have hnd2 : (rs.map (·.1)).Nodup := (hpm.map _).nodup_iff.mpr hnd
      have etx : catS rs rt1 = catN ((sortR (rowsM rr1)).map nsr) rt1 := by
        rw [catS_N, sortR_eq hpm hnd]
      have hpv : PV rs rt1 := pv_of hnd2 (fun r hr' => by
        obtain ⟨mr, hmr, rfl⟩ := List.mem_map.mp (hpm.mem_iff.mp hr')
        exact ⟨G7.okM _ (List.mem_map.mpr ⟨mr, hmr, rfl⟩), hsm7 mr hmr⟩) (fun s e => (G7.rest s e).1) (by
        rw [catF_go (rsF_of_good (rows_nodK hnd2) fun e he => ?_), rowsE_rows]
        · exact catP hpm G7
        · obtain ⟨r, hr', rfl⟩ := List.mem_map.mp he
          obtain ⟨mr, hmr, rfl⟩ := List.mem_map.mp (hpm.mem_iff.mp hr')
          unfold goodE
          rw [Bool.and_eq_true]
          exact ⟨G7.nms _ (List.mem_append_left _ (List.mem_map.mpr ⟨mr, hmr, rfl⟩)), (spanO_ok _).trans (G7.ok mr hmr)⟩)
      generalize catN ((sortR (rowsM rr1)).map nsr) rt1 = tx at etx ⊢
      have htx := law_rows (t := tx) hpv (catS_N.symm.trans etx)
      obtain ⟨txk, txl, txs⟩ : tOkC tx ∧ tx.length ≤ 800 ∧ semi tx ≤ 8 := by
        rw [← etx, catS_N]
        exact catN_ok hpv.vn (by rw [List.length_map, sortR_len]; exact hpv.len)
      have txp : (Txt.split tx "; ").length ≤ 60 := Nat.le_trans (split_semi tx) (by omega)
      have hl8 := hpv.len
      have ic := T.ic_Catalog
      have C9h := C9.mono (nb_le H9 p)
      obtain ⟨dx, _, _, _, _, g9, _⟩ := id C9h
      refine ⟨_, rfl, x, dx, _, rfl, g9, x, rs, rt1, rfl, C9h, hpv.nd, by omega, hpv.sm, fun s e => (hpv.vn.rt s e).1, fun H10 t et s10 => ⟨t, rfl, _, rfl, rfl, _, rfl, iteFe (by rw [et, etx]; simp) ?_⟩⟩
      have S10 := S9.keep s10
      have C10 := C9.mono (nb_ex (.same s10))
      have E10 := E9.trans (.same s10)
      clear C9h g9 S9 C9 E9 s9 s10 C8 S8 E8 M8 M7 S7 E7 et
      refine ⟨_, rfl, .str tx, some (.str tx), rfl, .inl (tOkC_vd txk), S10.tab, fun t' e => (by cases e; exact ⟨txk, txp⟩), fun non => (by have := non tx rfl; rw [htx] at this; cases this), fun t' y rs' rt' H11 e1 e2 pv' ec ex11 hT11 st => ?_⟩
      cases e1
      have ez := htx.symm.trans e2
      have ex11p : EX [p] H10 H11 := ex11.mono (by simp)
      have S11 : LS H11 p _ T.pt_all_stretches := ⟨S10.box.nd (EX.nil0 ex11), hT11⟩
      have C11 := C10.mono (nb_ex ex11p)
      have E11 := E10.trans ex11p
      have ezr : (sortR rs).map nsr = (sortR rs').map nsr := congrArg Prod.fst (Option.some.inj ez)
      have ezt : rt1 = rt' := congrArg Prod.snd (Option.some.inj ez)
      subst ezt
      have cX := C11.mono (nb_le H11 p)
      obtain ⟨dxx, _, _, _, _, gx, _⟩ := id cX
      obtain ⟨dyy, _, _, _, _, gy, _⟩ := id st
      refine ⟨_, rfl, y, dyy, _, .ref T.C_Catalog, rfl, gy, .base (.ins gx ic.cl ic.ha ic.hn ic.htk ic.hm), by simp [PySem.W.notFirst], y, .ref x, rs', rt1, rfl, st, .inr ⟨x, rs, rt1, rfl, cX, ?_⟩⟩
      rw [ceq_sorted pv'.nd hpv.nd ezr.symm]
      refine ⟨_, rfl, iteF ?_⟩
      clear cX gx gy st ez ezr pv' ec C10 E10 S10 ex11 ex11p hT11
      refine ⟨_, rfl, by decide, by decide, for_range (fun j σ H' => ∃ v8 v9 v10 v11 v12 n', σ = [some (.ref a), some (.int (0 + (i : Int))), some (.ref p), some (.ref q1), some (.ref wl), some (.bl c), some (.ref x), some (.str tx), v8, v9, v10, v11, v12, v13, none] ∧ EX [p] H3 H' ∧ LS H' p n' T.pt_all_stretches ∧ n' ≤ 300 + 20 * j ∧ CatAt K T.C_Catalog (nb H' p) x rs rt1) ⟨_, _, _, _, _, _, rfl, E11, S11, by omega, C11⟩ ?_ ?_⟩
      · rintro j σ H12 hj ⟨v8, v9, v10, v11, v12, n', rfl, E12, S12, hn', C12⟩
        have hj5 : j < 5 := hj
        -- the text is bent
        refine ⟨fun σ H' => ∃ (u : Str) (n2 : Nat), σ = [some (.ref a), some (.int (0 + (i : Int))), some (.ref p), some (.ref q1), some (.ref wl), some (.bl c), some (.ref x), some (.str tx), some (.int (0 + (j : Int))), some (.str u), v10, v11, v12, v13, none] ∧ tOkC u ∧ semi u ≤ 10 ∧ EX [p] H3 H' ∧ LS H' p n2 T.pt_all_stretches ∧ n2 ≤ n' + 6 ∧ CatAt K T.C_Catalog (nb H' p) x rs rt1, ⟨_, rfl, _, rfl, _, _, rfl, rfl, _, rfl, ?_⟩, ?_⟩
        · by_cases h4 : j < 4
          · refine iteTe (decide_eq_true (by omega)) ⟨_, rfl, but H12 p, p, n', tx, rfl, S12.box.in_, txk, by omega, by omega, fun H13 u B13 hk hl hs => ?_⟩
            exact ⟨u, _, rfl, hk, by omega, E12.trans (ex_of B13), S12.after B13, by omega, C12.mono (nb_ex (ex_of B13))⟩
          · refine iteFe (decide_eq_false (by omega)) ⟨_, rfl, _, rfl, but H12 p, p, n', tx, rfl, S12.box.in_, txk, by omega, by omega, fun H13 u1 B13 hk1 hl1 hs1 => ?_⟩
            have S13 := S12.after B13
            refine ⟨but H13 p, p, _, u1, rfl, S13.box.in_, hk1, by omega, by omega, fun H14 u B14 hk hl hs => ?_⟩
            exact ⟨u, _, rfl, hk, by omega, (E12.trans (ex_of B13)).trans (ex_of B14), S13.after B14, by omega, (C12.mono (nb_ex (ex_of B13))).mono (nb_ex (ex_of B14))⟩
        rintro σ H13 ⟨u, n2, rfl, uk, us, E13, S13, hn2, C13⟩
        have up : (Txt.split u "; ").length ≤ 60 := Nat.le_trans (split_semi u) (by omega)
        have r2s : (2 : Nat) ≤ sizeLine := by decide
        cases hlu : lawC u with
        | none =>
          refine ⟨_, rfl, u, rfl, uk, fun _ H14 s14 => ?_, fun z e => (by rw [hlu] at e; cases e)⟩
          have S14 := S13.keep s14
          refine ⟨_, rfl, .str u, some (.str u), rfl, .inl (tOkC_vd uk), S14.tab, fun t e => (by cases e; exact ⟨uk, up⟩), fun _ H15 pt ex15 hT15 hpt => ?_, fun t y rs' rt' H' pt e1 e2 => (by cases e1; rw [hlu] at e2; cases e2)⟩
          have ex15p : EX [p] H13 H15 := (EX.same s14).trans (ex15.mono (by simp))
          have S15 : LS H15 p n2 T.pt_all_stretches := ⟨S14.box.nd (EX.nil0 ex15), hT15⟩
          refine ⟨_, rfl, rfl, _, rfl, iteT ⟨_, rfl, _, rfl, r2s, fun e0 he0 => ?_⟩⟩
          have s16 := same_new (o := .lst [.str "text", .str u]) he0
          refine .inl ⟨pt, e0, [.str "text", .str u], rfl, rfl, SqL.of (s16 _ _ hpt), SqL.of upd_same, rfl, _, rfl, iteF ?_⟩
          refine ⟨_, rfl, rfl, _, rfl, iteF (iteF ?_)⟩
          refine ⟨_, rfl, rfl, _, rfl, iteF ?_⟩
          exact ⟨_, _, _, _, _, n2, rfl, (E13.trans ex15p).trans (.same s16), S15.keep s16, by omega, (C13.mono (nb_ex ex15p)).mono (nb_ex (.same s16))⟩
        | some z =>
          obtain ⟨L, r⟩ := z
          obtain ⟨v1, v8, v9⟩ := law_told hlu
          refine ⟨_, rfl, u, rfl, uk, fun e => (by rw [hlu] at e; cases e), fun z e H14 q2 s14 hrd => ?_⟩
          have e := Option.some.inj (hlu.symm.trans e)
          subst e
          have S14 := S13.keep s14
          refine ⟨_, rfl, .str u, some (.str u), rfl, .inl (tOkC_vd uk), S14.tab, fun t e => (by cases e; exact ⟨uk, up⟩), fun non => (by have := non u rfl; rw [hlu] at this; cases this), fun t y rs' rt' H15 pt e1 e2 pv' ec ex15 hT15 st hpt => ?_⟩
          cases e1
          have ez := Option.some.inj (hlu.symm.trans e2)
          have ezr : L = (sortR rs').map nsr := congrArg Prod.fst ez
          have ezt : r = rt' := congrArg Prod.snd ez
          subst ezt
          have ex15p : EX [p] H13 H15 := (EX.same s14).trans (ex15.mono (by simp))
          have S15 : LS H15 p n2 T.pt_all_stretches := ⟨S14.box.nd (EX.nil0 ex15), hT15⟩
          have keepL : ∀ {b : Addr} {xs : List V}, H14 b = some (.lst xs) → H15 b = some (.lst xs) := fun h => ex15 _ _ List.not_mem_nil h fun ps z => by cases z
          have keepT : ∀ {b : Addr} {xs : List V}, H14 b = some (.tup xs) → H15 b = some (.tup xs) := fun h => ex15 _ _ List.not_mem_nil h fun ps z => by cases z
          obtain ⟨lr2, rr2, hq2, hlr2, hrow2, hn2'⟩ := hrd
          have hq2 := keepL hq2
          have hlr2 := keepL hlr2
          have hrow2 : ∀ x ∈ rr2, rowAt H15 x := fun x hx => ⟨keepL (hrow2 x hx).1, keepT (hrow2 x hx).2⟩
          refine ⟨_, rfl, rfl, _, rfl, iteF (iteF ?_)⟩
          refine ⟨_, rfl, rfl, _, rfl, iteT ⟨_, rfl, pt, _, 0, .str "read", rfl, rfl, SqL.of hpt, atI_nat (j := 0) rfl, rfl, _, rfl, iteFe (by simp) ?_⟩⟩
          refine ⟨_, rfl, rfl, _, rfl, iteT ?_⟩
          refine ⟨_, rfl, q2, _, 0, .ref lr2, rfl, rfl, SqL.of hq2, atI_nat (j := 0) rfl, lr2, rfl, ⟨_, SqL.of hlr2⟩, fun D hD => ?_⟩
          have hll2 : rr2.length ≤ 8 := by
            have := congrArg List.length hn2'
            rw [List.length_map] at this
            have h8 : L.length + r.toList.length ≤ 8 := v8
            have this : rr2.length = L.length := this
            omega
          refine lc_it walk_list (fun j H' => ∃ ts : List Addr, Same H15 H' ∧ H' D = some (.lst (ts.map V.ref)) ∧ ts.length = j ∧ PySem.Paired (fun a (r : Row) => H' a = some (.tup [.str r.1, .ref r.2.1])) ts ((rowsM rr2).take j)) ⟨[], same_new hD, upd_same, rfl, .nil⟩ (fun j H' _ ⟨ts, s, _⟩ => SqL.of (s _ _ hlr2)) ?_ ?_
          · rintro j2 y H21 H22 hj2 ⟨ts, s1, hD1, htl, hts⟩ hy
            obtain ⟨rfl, hx⟩ := hy
            have hx : (rr2.map fun r => V.ref r.1)[j2]? = some y := hx
            rw [List.getElem?_map] at hx
            obtain ⟨r, hr', rfl⟩ := Option.map_eq_some_iff.mp hx
            obtain ⟨hr1, hr2⟩ := hrow2 r (List.mem_of_getElem? hr')
            have hri : (rowsM rr2)[j2]? = some (r.2.1, r.2.2.1, r.2.2.2) := by
              unfold rowsM
              rw [List.getElem?_map, hr']
              rfl
            refine ⟨rfl, tyes ⟨_, rfl, r.1, _, rfl, .inl ⟨SqL.of (s1 _ _ hr1), fun u hu => ?_⟩⟩⟩
            have ntD : u ≠ D := (ne_of_none hD1 hu).symm
            have s2 := same_new (o := .tup [.str r.2.1, .ref r.2.2.1]) hu
            refine ⟨_, by rw [upd_ne ntD.symm]; exact hD1, ?_, ts ++ [u], fun b o e => ?_, by rw [upd_same, List.map_append]; rfl, by rw [List.length_append, htl]; rfl, ?_⟩
            · have hj2 : j2 < (rr2.map fun r => V.ref r.1).length := hj2
              rw [List.length_map] at hj2 ⊢
              exact Nat.lt_of_le_of_lt (show ts.length ≤ 100 by omega) (by decide)
            · rw [upd_ne (ne_of_none e hD)]
              exact s2 _ _ (s1 _ _ e)
            · rw [List.take_add_one, hri]
              refine paired_snoc (by rw [upd_ne ntD, upd_same]) (paired_imp (fun a r e => ?_) hts)
              rw [upd_ne (ne_of e hD1 (by intro z; cases z))]
              exact s2 _ _ e
          rintro H21 ⟨ts, s1, hD1, htl, hts⟩
          rw [List.length_map] at hts
          have hts : PySem.Paired (fun a (r : Row) => H21 a = some (.tup [.str r.1, .ref r.2.1])) ts (rowsM rr2) := by
            rw [List.take_of_length_le (by unfold rowsM; rw [List.length_map]; exact Nat.le_refl _)] at hts
            exact hts
          have hpp : PySem.Paired (fun (a : Addr) (kv : Key × V) => SqT K H21 a [kV kv.1, kv.2]) ts ((rowsM rr2).map rKV) := by
            have key : ∀ {l : List Addr} {R : List Row}, PySem.Paired (fun a (r : Row) => H21 a = some (.tup [.str r.1, .ref r.2.1])) l R → PySem.Paired (fun (a : Addr) (kv : Key × V) => SqT K H21 a [kV kv.1, kv.2]) l (R.map rKV) := fun h => by
              induction h with
              | nil => exact .nil
              | cons a _ ih => exact .cons (SqT.of a) ih
            exact key hts
          have ensr : (rowsM rr2).map nsr = L := by
            unfold rowsM
            rw [List.map_map]
            exact hn2'
          obtain ⟨nd2, ok2', _, rt2, cr2⟩ := catL (vn_good v1 v8) ensr
          have hmk : mergeK [] ((rowsM rr2).map rKV) = (rowsM rr2).map rKV := by
            refine mergeK_nod _ [] ?_
            rw [List.nil_append, List.map_map]
            have nd3 := nd2
            unfold List.Nodup at nd3 ⊢
            rw [List.pairwise_map] at nd3 ⊢
            exact nd3.imp fun h e => h (Sum.inr.inj e)
          refine ⟨D, ts, (rowsM rr2).map rKV, rfl, SqL.of hD1, hpp, fun dd hdd => ?_⟩
          rw [hmk]
          have s2 := same_new (o := .dK ((rowsM rr2).map rKV)) hdd
          have hdd2 : (upd H21 dd (.dK ((rowsM rr2).map rKV))) dd = some (.dK ((rowsM rr2).map rKV)) := upd_same
          have s12' := s1.trans s2
          generalize upd H21 dd (.dK ((rowsM rr2).map rKV)) = H22 at s12' hdd2
          refine ⟨_, rfl, q2, _, 1, rvO r, rfl, rfl, SqL.of (s12' _ _ hq2), atI_nat (j := 1) rfl, rfl, rfl, fun x2 dx2 hx2 hdx2 ne => ?_⟩
          have sM : Same H22 (upd (upd H22 dx2 (.own x2)) x2 (.ins T.C_Catalog dx2 [])) := fun b u e => by
            rw [upd_ne (ne_of_none e hx2), upd_ne (ne_of_none e hdx2)]
            exact e
          refine cinit_rowsR sM hx2 upd_same (sM _ _ hdd2) (fun r' hr' => ?_) nd2 (by unfold rowsM; rw [List.length_map]; omega) rt2 ((S15.tab.ext s12').ext sM) (fun z er2 => ?_) fun er2 H23 ex23 hT23 hcn3 => ?_
          · obtain ⟨mr, hmr, rfl⟩ := List.mem_map.mp hr'
            exact ⟨SqT.of (sM _ _ (s12' _ _ (hrow2 mr hmr).2)), (ok2' _ hr').2, (ok2' _ hr').1⟩
          · rw [cr2] at er2
            cases er2
          have EA : EX [] H15 H23 := (EX.same s12').trans ex23
          have st23 := st.ex0 EA
          have c2 := hcn3.at_
          have hpt23 : H23 pt = some (.lst [.str "read", .ref y]) := EA _ _ List.not_mem_nil hpt fun ps z => by cases z
          obtain ⟨dyy, _, _, _, _, gy, _⟩ := id st23
          obtain ⟨dxx, _, _, _, _, gx, _⟩ := id c2
          have hq8 := pv'.len
          refine ⟨_, rfl, pt, _, 1, .ref y, rfl, rfl, SqL.of hpt23, atI_nat (j := 1) rfl, _, rfl, y, dyy, _, .ref T.C_Catalog, rfl, gy, .base (.ins gx ic.cl ic.ha ic.hn ic.htk ic.hm), by simp [PySem.W.notFirst], y, .ref x2, rs', r, rfl, st23, .inr ⟨x2, rowsM rr2, r, rfl, c2, ?_⟩⟩
          have eL : (sortR rs').map nsr = (rowsM rr2).map nsr := ezr.symm.trans ensr.symm
          have hlq := congrArg List.length eL
          rw [List.length_map, List.length_map, sortR_len] at hlq
          rw [ceq_same pv'.nd nd2 hlq fun r1 hr1 => by
            have hm : nsr r1 ∈ (rowsM rr2).map nsr := by
              rw [← eL]
              exact List.mem_map.mpr ⟨r1, (sortR_perm pv'.nd).mem_iff.mpr hr1, rfl⟩
            obtain ⟨r2, hr2, e2⟩ := List.mem_map.mp hm
            exact ⟨r2, hr2, e2⟩, decide_eq_true rfl]
          refine ⟨_, rfl, iteF ?_⟩
          refine ⟨_, rfl, pt, _, 1, .ref y, rfl, rfl, SqL.of hpt23, atI_nat (j := 1) rfl, y, dyy, _, rfl, gy, y, rs', r, rfl, st23, pv'.nd, by omega, pv'.sm, fun s e => (pv'.vn.rt s e).1, fun H24 t et s24 => ⟨t, rfl, _, rfl, rfl, _, rfl, iteFe (by rw [et, ec]; simp) ?_⟩⟩
          have EB : EX [p] H15 H24 := (EA.mono (by simp)).trans (.same s24)
          have S23 : LS H23 p n2 T.pt_all_stretches := ⟨S15.box.nd (EX.nil0 EA), hT23⟩
          exact ⟨_, _, _, _, _, n2, rfl, (E13.trans ex15p).trans EB, S23.keep s24, by omega, (C13.mono (nb_ex ex15p)).mono (nb_ex EB)⟩
      · rintro σ H12 ⟨v8, v9, v10, v11, v12, n', rfl, E12, S12, hn', C12⟩
        have r1s : (1 : Nat) ≤ sizeLine := by decide
        have r2s : (2 : Nat) ≤ sizeLine := by decide
        have hn12 : n' ≤ 400 := by
          have : n' ≤ 300 + 20 * (5 : Int).toNat := hn'
          omega
        refine ⟨_, rfl, r1s, fun l0 hl0 => ⟨_, rfl, fun d0 hd0 => ⟨(by show 10 ≤ sizeLine; decide), fun l hl => ?_⟩⟩⟩
        have u1 := same_new (o := .lst [.str tx]) hl0
        have u2 := same_new (o := .dK []) hd0
        have u3 := same_new (o := .lst [V.non, .int 5, .bl true, .ref l0, .str "", .str "rest", .str "a", .ref x, .ref d0, .str "a ..; b .."]) hl
        have g1 : (upd (upd (upd H12 l0 (.lst [.str tx])) d0 (.dK [])) l (.lst [V.non, .int 5, .bl true, .ref l0, .str "", .str "rest", .str "a", .ref x, .ref d0, .str "a ..; b .."])) l0 = some (.lst [.str tx]) := u3 _ _ (u2 _ _ upd_same)
        have g2 : (upd (upd (upd H12 l0 (.lst [.str tx])) d0 (.dK [])) l (.lst [V.non, .int 5, .bl true, .ref l0, .str "", .str "rest", .str "a", .ref x, .ref d0, .str "a ..; b .."])) d0 = some (.dK []) := u3 _ _ upd_same
        have g3 : (upd (upd (upd H12 l0 (.lst [.str tx])) d0 (.dK [])) l (.lst [V.non, .int 5, .bl true, .ref l0, .str "", .str "rest", .str "a", .ref x, .ref d0, .str "a ..; b .."])) l = some (.lst [V.non, .int 5, .bl true, .ref l0, .str "", .str "rest", .str "a", .ref x, .ref d0, .str "a ..; b .."]) := upd_same
        have m1 := S12.ne hl0
        have m2 : d0 ≠ p := S12.ne (u1.free hd0)
        have m3 : l ≠ p := S12.ne (u1.free (u2.free hl))
        have u13 := u1.trans (u2.trans u3)
        generalize upd (upd (upd H12 l0 (.lst [.str tx])) d0 (.dK [])) l (.lst [V.non, .int 5, .bl true, .ref l0, .str "", .str "rest", .str "a", .ref x, .ref d0, .str "a ..; b .."]) = H13 at u13 g1 g2 g3 ⊢
        have S13 := S12.keep u13
        have E13 := E12.trans (.same u13)
        refine ⟨_, rfl, but H13 p, p, _, 10, rfl, S13.box.in_, by omega, by decide, by decide, fun z2 H14 z20 z21 B14 => ?_⟩
        have S14 := S13.after B14
        have E14 := E13.trans (ex_of B14)
        have C14 := (C12.mono (nb_ex ((EX.same u13).trans (ex_of B14)))).mono (nb_le H14 p)
        obtain ⟨dxo, _, _, _, _, go, _⟩ := id C14
        obtain ⟨v, hv, hvm⟩ := atI_in (xs := [V.non, .int 5, .bl true, .ref l0, .str "", .str "rest", .str "a", .ref x, .ref d0, .str "a ..; b .."]) z20 z21
        have g1 := B14.same _ _ (by rw [but_ne m1]; exact g1)
        have g2 := B14.same _ _ (by rw [but_ne m2]; exact g2)
        have g3 := B14.same _ _ (by rw [but_ne m3]; exact g3)
        have tk : ∀ w ∈ ([Str.ofString "", Str.ofString "rest", Str.ofString "a", Str.ofString "a ..; b .."] : List Str), (w.length ≤ 1000 ∧ PyData.strOk w = true) ∧ (Txt.split w "; ").length ≤ 60 ∧ lawC w = none := by decide +kernel
        obtain ⟨o, hvd, hno⟩ : ∃ o, RV9 K T.C_Catalog H14 v o ∧ ∀ t, o = some (.str t) → tOkC t ∧ (Txt.split t "; ").length ≤ 60 ∧ lawC t = none := by
          simp only [List.mem_cons, List.not_mem_nil, or_false] at hvm
          have st : ∀ w ∈ ([Str.ofString "", Str.ofString "rest", Str.ofString "a", Str.ofString "a ..; b .."] : List Str), ∃ o, RV9 K T.C_Catalog H14 (.str w) o ∧ ∀ t, o = some (.str t) → tOkC t ∧ (Txt.split t "; ").length ≤ 60 ∧ lawC t = none := fun w hw =>
            ⟨some (.str w), .inl (tOkC_vd (tk w hw).1), fun t e => by cases e; exact tk w hw⟩
          rcases hvm with rfl | rfl | rfl | rfl | rfl | rfl | rfl | rfl | rfl | rfl
          · exact ⟨some .none, .inl (.dat .non (by decide) fun s e => (by cases e)), fun t e => by cases e⟩
          · exact ⟨some (.int 5), .inl (.dat (.int 5) (by decide) fun s e => (by cases e)), fun t e => by cases e⟩
          · exact ⟨some (.bool true), .inl (.dat (.bl true) (by decide) fun s e => (by cases e)), fun t e => by cases e⟩
          · refine ⟨some (.list [.str tx]), .inl (.dat (.lst (SqL.of g1) (.cons (.str _) .nil)) (shaped_list (n := 0) (by decide) fun d hd => ?_) fun s e => (by cases e)), fun t e => by cases e⟩
            rw [List.mem_singleton.mp hd]
            exact ⟨by simp only [PyData.canLay0]; exact txk.2, by simp [PyData.depth]⟩
          · exact st _ (by simp)
          · exact st _ (by simp)
          · exact st _ (by simp)
          · exact ⟨none, .inr ⟨rfl, x, dxo, _, rfl, go⟩, fun t e => by cases e⟩
          · exact ⟨none, .inl (.dic g2), fun t e => by cases e⟩
          · exact st _ (by simp)
        refine ⟨l, _, z2, v, rfl, rfl, SqL.of g3, hv, ?_⟩
        refine ⟨_, rfl, v, o, rfl, hvd, S14.tab, fun t e => ⟨(hno t e).1, (hno t e).2.1⟩, fun _ H15 pt ex15 hT15 hpt => ?_, fun t y rs' rt' H' pt e1 e2 => (by rw [(hno t e1).2.2] at e2; cases e2)⟩
        have S15 : LS H15 p _ T.pt_all_stretches := ⟨S14.box.nd (EX.nil0 ex15), hT15⟩
        have E15 : EX [p] H3 H15 := E14.trans (ex15.mono (by simp))
        refine ⟨_, rfl, r2s, fun e0 he0 => ?_⟩
        have s16 := same_new (o := .lst [.str "text", v]) he0
        refine .inl ⟨pt, e0, [.str "text", v], rfl, rfl, SqL.of (s16 _ _ hpt), SqL.of upd_same, ?_, _, rfl, iteF ?_⟩
        · have := hvd.sure
          simp only [List.all_cons, List.all_nil, this, Bool.and_true]
          rfl
        exact ⟨_, _, _, _, _, _, _, _, _, _, _, _, _, rfl, (nb_le _ p).seq ((nb_ex (E15.trans (.same s16))).seq A3), S15.tab.ext s16⟩
    · rintro σ H1 ⟨v1, v2, v3, v4, v5, v6, v7, v8, v9, v10, v11, v12, v13, rfl, hA1, hT1⟩
      exact k H1
end
def oexB (K : PySem.W.Frag) (C : Addr) : Bool := match K.lookup C with
  | some ⟨.type c, _, .cls cd, sl⟩ => decide (c = "type") && ((match cd.mro with
    | .ref a :: bm => decide (a = C) && PySem.HandSPX.refsVE bm
    | _ => false) && (cd.hasDict && (!cd.hasDel && (match sl.toList with
    | [_, _, _, _, some (.builtin i), _] => decide (i = "ValueError.__new__")
    | _ => false))))
  | _ => false
theorem oexB_ok {K : PySem.W.Frag} {C : Addr} (h : oexB K C = true) : ∃ nm q N bs bm sn sub ab col dd k0 k1 k2 k3 k5, K.lookup C = some (excClassObj nm q C N bs bm true sn sub ab col dd k0 k1 k2 k3 k5 "ValueError.__new__") ∧ PySem.HandSPX.refsVE bm = true := by
  unfold oexB at h
  split at h
  · rename_i c dd cd sl q
    obtain ⟨nm, bs, mro, N, qn, hd, sn, sub, ab, col, del⟩ := cd
    simp only [Bool.and_eq_true, decide_eq_true_iff, Bool.not_eq_true'] at h
    obtain ⟨h1, h2, h3, h4, h5⟩ := h
    split at h2
    · rename_i a bm
      rw [Bool.and_eq_true, decide_eq_true_iff] at h2
      obtain ⟨h6, h7⟩ := h2
      split at h5
      · rename_i k0 k1 k2 k3 i k5 e
        obtain ⟨sl⟩ := sl
        have e' : sl = [k0, k1, k2, k3, some (.builtin i), k5] := e
        have h8 := of_decide_eq_true h5
        subst h1 h3 h4 e' h6 h8
        exact ⟨nm, qn, N, bs, bm, sn, sub, ab, col, dd, k0, k1, k2, k3, k5, q, h7⟩
      · cases h5
    · cases h2
  · cases h
def clsX (K : PySem.W.Frag) (c : Str × Str) : Bool := oexB K (He.ga K c.1) && (decide (PySem.W.findIn K (.ref (He.ga K c.1)) "__setattr__" = some (some (.builtin "object.__setattr__"))) && (decide (PySem.W.typeIn K (.ref (He.ga K c.1)) = some (.type "type")) && (PySem.W.keepIn K (.ref (He.ga K c.1)) && (xfB K (He.ga K c.1) &&
  (decide (PySem.W.findIn K (.ref (He.ga K c.1)) c.2 = some none) && (decide (PySem.W.findIn K (.ref (He.ga K c.1)) "__init__" = some (some (.ref (He.ma K (He.ga K c.1) "__init__")))) && decide (PySem.W.typeIn K (.ref (He.ma K (He.ga K c.1) "__init__")) = some (.type "function"))))))))
theorem clsX_ok {K : PySem.W.Frag} {c f : Str} (h : clsX K (c, f) = true) : OexC K (He.ga K c) ∧ XfC K (He.ga K c) ∧ PySem.W.findIn K (.ref (He.ga K c)) f = some none ∧ PySem.W.findIn K (.ref (He.ga K c)) "__init__" = some (some (.ref (He.ma K (He.ga K c) "__init__"))) ∧ PySem.W.typeIn K (.ref (He.ma K (He.ga K c) "__init__")) = some (.type "function") := by
  unfold clsX at h
  simp only [Bool.and_eq_true, decide_eq_true_iff] at h
  obtain ⟨h1, h2, h3, h4, h5, h6, h7, h8⟩ := h
  have y := xfB_ok h5
  exact ⟨⟨oexB_ok h1, h2, y.exC, h3, h4⟩, y, h6, h7, h8⟩
theorem meth_kp {K : PySem.W.Frag} {x m : Str} (h : (He.Fa.meth x m).ok K = true) : PySem.W.keepIn K (.ref (He.ma K (He.ga K x) m)) = true := (He.meth_ok h).kp
def insX (K : PySem.W.Frag) (x : Str) : Bool := decide (PySem.W.findIn K (.ref (He.ga K x)) "__class__" = some (some (.builtin "object.__class__"))) && (decide (PySem.W.specialIn K (.builtin "object.__class__") "__get__" = some (some (.builtin "getset_descriptor.__get__"))) && (decide (PySem.W.takesIn K (.builtin "object.__class__") = some true) && (decide (PySem.W.mroIn K (He.ga K x) (.type "object") = some true) && (decide (PySem.W.kitOne K (.ref (He.ga K x)) (.ref (He.ga K x)) = some true) &&
  (decide (PySem.W.kitOne K (.type "list") (.ref (He.ga K x)) = some false) && (PySem.W.notFirst K (He.ga K x) (.type "list") && (decide (PySem.W.kitOne K (.type "str") (.ref (He.ga K x)) = some false) && PySem.W.notFirst K (He.ga K x) (.type "str"))))))))
theorem insX_ok {K : PySem.W.Frag} {x : Str} (h : insX K x = true) (cl : Cls K (He.ga K x)) : C8.InsC K (He.ga K x) ∧ PySem.W.kitOne K (.type "list") (.ref (He.ga K x)) = some false ∧ PySem.W.notFirst K (He.ga K x) (.type "list") = true ∧ PySem.W.kitOne K (.type "str") (.ref (He.ga K x)) = some false ∧ PySem.W.notFirst K (He.ga K x) (.type "str") = true := by
  unfold insX at h
  simp only [Bool.and_eq_true, decide_eq_true_iff] at h
  obtain ⟨h1, h2, h3, h4, h5, h6, h7, h8, h9⟩ := h
  exact ⟨⟨cl, h1, h2, h3, h4, h5⟩, h6, h7, h8, h9⟩
def gk3_Catalog_init_2_rest {α : Type} : List α → List α → List α → List α → List α
  | [u0, u1], _, _, [w0] => [u0, u1, w0]
  | _, _, _, _ => []
theorem gk3_Catalog_init_2_rest_rel {vs ds mz zs : List V} {us its mv ws : List Value} (r1 : Vals vs us) (r2 : Vals ds its) (r3 : Vals mz mv) (r4 : Vals zs ws) : Vals (gk3_Catalog_init_2_rest vs ds mz zs) (gk3_Catalog_init_2_rest us its mv ws) := by
  cases r1 with
  | nil => exact .nil
  | cons a0 r1 =>
    cases r1 with
    | nil => exact .nil
    | cons a1 r1 =>
      cases r1 with
      | cons _ _ => exact .nil
      | nil =>
        cases r4 with
        | nil => exact .nil
        | cons b0 r4 =>
          cases r4 with
          | cons _ _ => exact .nil
          | nil =>
            exact .cons a0 (.cons a1 (.cons b0 .nil))
theorem gv3_Catalog_init_2_rest_rel {vs zs : List V} {us its mv ws : List Value} (r1 : Vals vs us) (r4 : Vals zs ws) : Vals (gv_Catalog_init_2_rest vs zs) (gk3_Catalog_init_2_rest us its mv ws) := by
  cases r1 with
  | nil => exact .nil
  | cons a0 r1 =>
    cases r1 with
    | nil => exact .nil
    | cons a1 r1 =>
      cases r1 with
      | cons _ _ => exact .nil
      | nil =>
        cases r4 with
        | nil => exact .nil
        | cons b0 r4 =>
          cases r4 with
          | cons _ _ => exact .nil
          | nil =>
            exact .cons a0 (.cons a1 (.cons b0 .nil))
def fd0 : He.DefD := { at_ := ("InvalidName", some "__init__"), name := "__init__", qual := "InvalidName.__init__", params := defArgs s_InvalidName_init, body := defBody s_InvalidName_init, scope := defScope s_InvalidName_init, dfl := [], kwd := [] }
def fd1 : He.DefD := { at_ := ("InvalidSpan", some "__init__"), name := "__init__", qual := "InvalidSpan.__init__", params := defArgs s_InvalidSpan_init, body := defBody s_InvalidSpan_init, scope := defScope s_InvalidSpan_init, dfl := [], kwd := [] }
def fd2 : He.DefD := { at_ := ("InvalidSpans", some "__init__"), name := "__init__", qual := "InvalidSpans.__init__", params := defArgs s_InvalidSpans_init, body := defBody s_InvalidSpans_init, scope := defScope s_InvalidSpans_init, dfl := [], kwd := [] }
def fd3 : He.DefD := { at_ := ("InvalidText", some "__init__"), name := "__init__", qual := "InvalidText.__init__", params := defArgs s_InvalidText_init, body := defBody s_InvalidText_init, scope := defScope s_InvalidText_init, dfl := [], kwd := [] }
def fd4 : He.DefD := { at_ := ("UnknownPart", some "__init__"), name := "__init__", qual := "UnknownPart.__init__", params := defArgs s_UnknownPart_init, body := defBody s_UnknownPart_init, scope := defScope s_UnknownPart_init, dfl := [], kwd := [] }
def fd5 : He.DefD := { at_ := ("NameTaken", some "__init__"), name := "__init__", qual := "NameTaken.__init__", params := defArgs s_NameTaken_init, body := defBody s_NameTaken_init, scope := defScope s_NameTaken_init, dfl := [], kwd := [] }
def fd6 : He.DefD := { at_ := ("Overlap", some "__init__"), name := "__init__", qual := "Overlap.__init__", params := defArgs s_Overlap_init, body := defBody s_Overlap_init, scope := defScope s_Overlap_init, dfl := [], kwd := [] }
def fd7 : He.DefD := { at_ := ("TooMany", some "__init__"), name := "__init__", qual := "TooMany.__init__", params := defArgs s_TooMany_init, body := defBody s_TooMany_init, scope := defScope s_TooMany_init, dfl := [], kwd := [] }
def fd8 : He.DefD := { at_ := ("is_integer", none), name := "is_integer", qual := "is_integer", params := defArgs s_is_integer, body := defBody s_is_integer, scope := defScope s_is_integer, dfl := [], kwd := [] }
def fd9 : He.DefD := { at_ := ("is_name", none), name := "is_name", qual := "is_name", params := defArgs s_is_name, body := defBody s_is_name, scope := defScope s_is_name, dfl := [], kwd := [] }
def fd10 : He.DefD := { at_ := ("is_span", none), name := "is_span", qual := "is_span", params := defArgs s_is_span, body := defBody s_is_span, scope := defScope s_is_span, dfl := [], kwd := [] }
def fd11 : He.DefD := { at_ := ("is_limit", none), name := "is_limit", qual := "is_limit", params := defArgs s_is_limit, body := defBody s_is_limit, scope := defScope s_is_limit, dfl := [], kwd := [] }
def fd12 : He.DefD := { at_ := ("require_name", none), name := "require_name", qual := "require_name", params := defArgs s_require_name, body := defBody s_require_name, scope := defScope s_require_name, dfl := [], kwd := [] }
def fd13 : He.DefD := { at_ := ("require_span", none), name := "require_span", qual := "require_span", params := defArgs s_require_span, body := defBody s_require_span, scope := defScope s_require_span, dfl := [], kwd := [] }
def fd14 : He.DefD := { at_ := ("meet", none), name := "meet", qual := "meet", params := defArgs s_meet, body := defBody s_meet, scope := defScope s_meet, dfl := [], kwd := [] }
def fd15 : He.DefD := { at_ := ("common", none), name := "common", qual := "common", params := defArgs s_common, body := defBody s_common, scope := defScope s_common, dfl := [], kwd := [] }
def fd16 : He.DefD := { at_ := ("span_text", none), name := "span_text", qual := "span_text", params := defArgs s_span_text, body := defBody s_span_text, scope := defScope s_span_text, dfl := [], kwd := [] }
def fd17 : He.DefD := { at_ := ("limit_text", none), name := "limit_text", qual := "limit_text", params := defArgs s_limit_text, body := defBody s_limit_text, scope := defScope s_limit_text, dfl := [], kwd := [] }
def fd18 : He.DefD := { at_ := ("read_span", none), name := "read_span", qual := "read_span", params := defArgs s_read_span, body := defBody s_read_span, scope := defScope s_read_span, dfl := [], kwd := [] }
def fd19 : He.DefD := { at_ := ("is_limit_text", none), name := "is_limit_text", qual := "is_limit_text", params := defArgs s_is_limit_text, body := defBody s_is_limit_text, scope := defScope s_is_limit_text, dfl := [], kwd := [] }
def fd20 : He.DefD := { at_ := ("read_limit", none), name := "read_limit", qual := "read_limit", params := defArgs s_read_limit, body := defBody s_read_limit, scope := defScope s_read_limit, dfl := [], kwd := [] }
def fd21 : He.DefD := { at_ := ("is_number_text", none), name := "is_number_text", qual := "is_number_text", params := defArgs s_is_number_text, body := defBody s_is_number_text, scope := defScope s_is_number_text, dfl := [], kwd := [] }
def fd22 : He.DefD := { at_ := ("Catalog", some "__init__"), name := "__init__", qual := "Catalog.__init__", params := defArgs s_Catalog_init, body := defBody s_Catalog_init, scope := defScope s_Catalog_init, dfl := [.non], kwd := [("rest", .non)] }
def fd23 : He.DefD := { at_ := ("Catalog", some "__eq__"), name := "__eq__", qual := "Catalog.__eq__", params := defArgs s_Catalog_eq, body := defBody s_Catalog_eq, scope := defScope s_Catalog_eq, dfl := [], kwd := [] }
def fd24 : He.DefD := { at_ := ("Catalog", some "__str__"), name := "__str__", qual := "Catalog.__str__", params := defArgs s_Catalog_str, body := defBody s_Catalog_str, scope := defScope s_Catalog_str, dfl := [], kwd := [] }
def fd25 : He.DefD := { at_ := ("require_spans", none), name := "require_spans", qual := "require_spans", params := defArgs s_require_spans, body := defBody s_require_spans, scope := defScope s_require_spans, dfl := [], kwd := [] }
def fd26 : He.DefD := { at_ := ("require_rest", none), name := "require_rest", qual := "require_rest", params := defArgs s_require_rest, body := defBody s_require_rest, scope := defScope s_require_rest, dfl := [], kwd := [] }
def fd27 : He.DefD := { at_ := ("ordered_spans", none), name := "ordered_spans", qual := "ordered_spans", params := defArgs s_ordered_spans, body := defBody s_ordered_spans, scope := defScope s_ordered_spans, dfl := [], kwd := [] }
def fd28 : He.DefD := { at_ := ("first_meeting", none), name := "first_meeting", qual := "first_meeting", params := defArgs s_first_meeting, body := defBody s_first_meeting, scope := defScope s_first_meeting, dfl := [], kwd := [] }
def fd29 : He.DefD := { at_ := ("all_stretches", none), name := "all_stretches", qual := "all_stretches", params := defArgs s_all_stretches, body := defBody s_all_stretches, scope := defScope s_all_stretches, dfl := [], kwd := [] }
def fd30 : He.DefD := { at_ := ("low_place", none), name := "low_place", qual := "low_place", params := defArgs s_low_place, body := defBody s_low_place, scope := defScope s_low_place, dfl := [], kwd := [] }
def fd31 : He.DefD := { at_ := ("read_catalog", none), name := "read_catalog", qual := "read_catalog", params := defArgs s_read_catalog, body := defBody s_read_catalog, scope := defScope s_read_catalog, dfl := [], kwd := [] }
def fd32 : He.DefD := { at_ := ("parsed_catalog", none), name := "parsed_catalog", qual := "parsed_catalog", params := defArgs s_parsed_catalog, body := defBody s_parsed_catalog, scope := defScope s_parsed_catalog, dfl := [], kwd := [] }
def fd33 : He.DefD := { at_ := ("_law_cell", none), name := "_law_cell", qual := "_law_cell", params := defArgs s_law_cell, body := defBody s_law_cell, scope := defScope s_law_cell, dfl := [], kwd := [] }
def fd34 : He.DefD := { at_ := ("_law_box", none), name := "_law_box", qual := "_law_box", params := defArgs s_law_box, body := defBody s_law_box, scope := defScope s_law_box, dfl := [], kwd := [] }
def fd35 : He.DefD := { at_ := ("_law_take", none), name := "_law_take", qual := "_law_take", params := defArgs s_law_take, body := defBody s_law_take, scope := defScope s_law_take, dfl := [], kwd := [] }
def fd36 : He.DefD := { at_ := ("_law_mixed", none), name := "_law_mixed", qual := "_law_mixed", params := defArgs s_law_mixed, body := defBody s_law_mixed, scope := defScope s_law_mixed, dfl := [], kwd := [] }
def fd37 : He.DefD := { at_ := ("_law_names", none), name := "_law_names", qual := "_law_names", params := defArgs s_law_names, body := defBody s_law_names, scope := defScope s_law_names, dfl := [], kwd := [] }
def fd38 : He.DefD := { at_ := ("_law_model", none), name := "_law_model", qual := "_law_model", params := defArgs s_law_model, body := defBody s_law_model, scope := defScope s_law_model, dfl := [], kwd := [] }
def fd39 : He.DefD := { at_ := ("_law_catalog", none), name := "_law_catalog", qual := "_law_catalog", params := defArgs s_law_catalog, body := defBody s_law_catalog, scope := defScope s_law_catalog, dfl := [], kwd := [] }
def fd40 : He.DefD := { at_ := ("_law_text", none), name := "_law_text", qual := "_law_text", params := defArgs s_law_text, body := defBody s_law_text, scope := defScope s_law_text, dfl := [], kwd := [] }
def fd41 : He.DefD := { at_ := ("_law_is_name", none), name := "_law_is_name", qual := "_law_is_name", params := defArgs s_law_is_name, body := defBody s_law_is_name, scope := defScope s_law_is_name, dfl := [], kwd := [] }
def fd42 : He.DefD := { at_ := ("_law_number", none), name := "_law_number", qual := "_law_number", params := defArgs s_law_number, body := defBody s_law_number, scope := defScope s_law_number, dfl := [], kwd := [] }
def fd43 : He.DefD := { at_ := ("_law_span", none), name := "_law_span", qual := "_law_span", params := defArgs s_law_span, body := defBody s_law_span, scope := defScope s_law_span, dfl := [], kwd := [] }
def fd44 : He.DefD := { at_ := ("_law_meet", none), name := "_law_meet", qual := "_law_meet", params := defArgs s_law_meet, body := defBody s_law_meet, scope := defScope s_law_meet, dfl := [], kwd := [] }
def fd45 : He.DefD := { at_ := ("_law_read", none), name := "_law_read", qual := "_law_read", params := defArgs s_law_read, body := defBody s_law_read, scope := defScope s_law_read, dfl := [], kwd := [] }
def fd46 : He.DefD := { at_ := ("_law_told", none), name := "_law_told", qual := "_law_told", params := defArgs s_law_told, body := defBody s_law_told, scope := defScope s_law_told, dfl := [], kwd := [] }
def fd47 : He.DefD := { at_ := ("_law_bent", none), name := "_law_bent", qual := "_law_bent", params := defArgs s_law_bent, body := defBody s_law_bent, scope := defScope s_law_bent, dfl := [], kwd := [] }
def fd48 : He.DefD := { at_ := ("law", none), name := "law", qual := "law", params := defArgs s_law, body := defBody s_law, scope := defScope s_law, dfl := [], kwd := [] }
def fnL : List He.DefD := [fd0, fd1, fd2, fd3, fd4, fd5, fd6, fd7, fd8, fd9, fd10, fd11, fd12, fd13, fd14, fd15, fd16, fd17, fd18, fd19, fd20, fd21, fd22, fd23, fd24, fd25, fd26, fd27, fd28, fd29, fd30, fd31, fd32, fd33, fd34, fd35, fd36, fd37, fd38, fd39, fd40, fd41, fd42, fd43, fd44, fd45, fd46, fd47, fd48]
def faL : List He.Fa := [.glo "is_integer", .glo "is_name", .glo "is_span", .glo "is_limit", .glo "require_name", .glo "require_span", .glo "meet", .glo "common", .glo "span_text", .glo "limit_text", .glo "read_span", .glo "is_limit_text", .glo "read_limit", .glo "is_number_text", .glo "require_spans", .glo "require_rest", .glo "ordered_spans", .glo "first_meeting", .glo "all_stretches", .glo "low_place", .glo "read_catalog", .glo "parsed_catalog", .glo "_law_cell", .glo "_law_box", .glo "_law_take", .glo "_law_mixed", .glo "_law_names", .glo "_law_model", .glo "_law_catalog", .glo "_law_text", .glo "_law_is_name", .glo "_law_number", .glo "_law_span", .glo "_law_meet", .glo "_law_read", .glo "_law_told", .glo "_law_bent", .glo "law", .glo "InvalidName", .glo "InvalidSpan", .glo "InvalidSpans", .glo "InvalidText", .glo "UnknownPart", .glo "NameTaken", .glo "Overlap", .glo "TooMany", .glo "PartsError", .cls "Catalog", .glo "Catalog", .mkr "Catalog", .meth "Catalog" "__init__", .meth "Catalog" "__eq__", .meth "Catalog" "__str__", .noat "Catalog" "_spans", .noat "Catalog" "_rest", .noat "Catalog" "_names", .noat "Catalog" "_stretches", .exm "InvalidName" "PartsError" true, .exm "InvalidSpan" "PartsError" true, .exm "InvalidSpans" "PartsError" true, .exm "InvalidText" "PartsError" true, .exm "NameTaken" "PartsError" true, .exm "Overlap" "PartsError" true, .exm "TooMany" "PartsError" true, .exm "InvalidText" "InvalidText" true, .int "LONGEST_NAME" 8, .int "MOST_DIGITS" 30, .int "MOST_PARTS" 8, .free "isinstance", .free "int", .free "bool", .free "all", .free "str", .free "len", .free "tuple", .free "max", .free "min", .free "sorted", .free "list", .free "dict", .free "part", .free "range"]
def clsL : List (Str × Str) := [(("InvalidName" : Str), ("value" : Str)), (("InvalidSpan" : Str), ("value" : Str)), (("InvalidSpans" : Str), ("value" : Str)), (("InvalidText" : Str), ("value" : Str)), (("UnknownPart" : Str), ("name" : Str)), (("NameTaken" : Str), ("name" : Str)), (("Overlap" : Str), ("name" : Str)), (("TooMany" : Str), ("bound" : Str))]
def tfL : List He.Defn := [("all_stretches", none)]
def exB (K : PySem.W.Frag) : Bool := clsL.all (clsX K) && (insX K "Catalog" && (decide (PySem.W.kitOne K (.ref (He.ga K "Catalog")) (.type "str") = some false)))
def loose0 : List Str := ["_wall", "__name__", "PartsError", "InvalidName", "InvalidSpan", "InvalidSpans", "InvalidText", "UnknownPart", "NameTaken", "Overlap", "TooMany", "LONGEST_NAME", "MOST_DIGITS", "is_integer", "is_name", "is_span", "is_limit", "require_name", "require_span", "meet", "common", "span_text", "limit_text", "read_span", "is_limit_text", "read_limit", "is_number_text", "MOST_PARTS", "Catalog", "require_spans"]
def loose1 : List Str := ["require_rest", "ordered_spans", "first_meeting", "all_stretches", "low_place", "read_catalog", "parsed_catalog", "_law_cell", "_law_box", "_law_take", "_law_mixed", "_law_names", "_law_model", "_law_catalog", "_law_text", "_law_is_name", "_law_number", "_law_span", "_law_meet", "_law_read", "_law_told", "_law_bent"]
def looseL : List Str := loose0 ++ loose1
abbrev RW : PySem.W.OpenRow := PySem.W.OpenLaw.row PySem.Challenge.rw_hungparts_k09_texts_of_catalogs
abbrev hookM : PySem.W.Hook := He.hookX 5 faL fnL [] tfL exB
def obN (s : PySem.W.SharedT) : He.AlX := He.obsX 5 faL fnL [] tfL exB (HandSHeadRun.getT s)
theorem obN_eq (s : PySem.W.SharedT) : obN s = hookM.obs s.abs := He.obsX_eq (HandSHeadRun.getT_eq s)
theorem run (w : World) : HandSHeadRun.RunEq RW (PySem.W.view RW.prog [55]) hookM obN 6000 looseL w := by
  intro os
  kernel_rfl
theorem facts {l : PySem.W.OpenLaw} {w : World} {K : PySem.W.Frag} {h : Heap} {mg : Str → Option Value} {f : Addr} (X : K.In h) (G : h.Ns mainGlobals mg) (hfa : mg ("law" : Str) = some (.ref f)) (c : He.SaysX faL fnL [] tfL exB w h K) : LamX.LawAtS l w K CX0 14 63 "_law_script" mg f h := by
  have cd : He.SaysD faL fnL K := c.t.d
  have e := hfa.symm.trans (He.glo_ok X G (cd.fact 37 (f := .glo "law") rfl))
  cases e
  have ex' : exB K = true := c.more
  unfold exB at ex'
  simp only [Bool.and_eq_true] at ex'
  obtain ⟨e1, e2, e3⟩ := ex'
  obtain ⟨g0, D0⟩ := cd.def_ 0 (d := fd0) rfl
  have D0 : FunD K "__init__" "InvalidName.__init__" (defArgs s_InvalidName_init) (defBody s_InvalidName_init) (defScope s_InvalidName_init) [] [] (He.fAd K ("InvalidName", some "__init__")) g0 := D0
  obtain ⟨g1, D1⟩ := cd.def_ 1 (d := fd1) rfl
  have D1 : FunD K "__init__" "InvalidSpan.__init__" (defArgs s_InvalidSpan_init) (defBody s_InvalidSpan_init) (defScope s_InvalidSpan_init) [] [] (He.fAd K ("InvalidSpan", some "__init__")) g1 := D1
  obtain ⟨g2, D2⟩ := cd.def_ 2 (d := fd2) rfl
  have D2 : FunD K "__init__" "InvalidSpans.__init__" (defArgs s_InvalidSpans_init) (defBody s_InvalidSpans_init) (defScope s_InvalidSpans_init) [] [] (He.fAd K ("InvalidSpans", some "__init__")) g2 := D2
  obtain ⟨g3, D3⟩ := cd.def_ 3 (d := fd3) rfl
  have D3 : FunD K "__init__" "InvalidText.__init__" (defArgs s_InvalidText_init) (defBody s_InvalidText_init) (defScope s_InvalidText_init) [] [] (He.fAd K ("InvalidText", some "__init__")) g3 := D3
  obtain ⟨g4, D4⟩ := cd.def_ 4 (d := fd4) rfl
  have D4 : FunD K "__init__" "UnknownPart.__init__" (defArgs s_UnknownPart_init) (defBody s_UnknownPart_init) (defScope s_UnknownPart_init) [] [] (He.fAd K ("UnknownPart", some "__init__")) g4 := D4
  obtain ⟨g5, D5⟩ := cd.def_ 5 (d := fd5) rfl
  have D5 : FunD K "__init__" "NameTaken.__init__" (defArgs s_NameTaken_init) (defBody s_NameTaken_init) (defScope s_NameTaken_init) [] [] (He.fAd K ("NameTaken", some "__init__")) g5 := D5
  obtain ⟨g6, D6⟩ := cd.def_ 6 (d := fd6) rfl
  have D6 : FunD K "__init__" "Overlap.__init__" (defArgs s_Overlap_init) (defBody s_Overlap_init) (defScope s_Overlap_init) [] [] (He.fAd K ("Overlap", some "__init__")) g6 := D6
  obtain ⟨g7, D7⟩ := cd.def_ 7 (d := fd7) rfl
  have D7 : FunD K "__init__" "TooMany.__init__" (defArgs s_TooMany_init) (defBody s_TooMany_init) (defScope s_TooMany_init) [] [] (He.fAd K ("TooMany", some "__init__")) g7 := D7
  obtain ⟨g8, D8⟩ := cd.def_ 8 (d := fd8) rfl
  have D8 : FunD K "is_integer" "is_integer" (defArgs s_is_integer) (defBody s_is_integer) (defScope s_is_integer) [] [] (He.fAd K ("is_integer", none)) g8 := D8
  obtain ⟨g9, D9⟩ := cd.def_ 9 (d := fd9) rfl
  have D9 : FunD K "is_name" "is_name" (defArgs s_is_name) (defBody s_is_name) (defScope s_is_name) [] [] (He.fAd K ("is_name", none)) g9 := D9
  obtain ⟨g10, D10⟩ := cd.def_ 10 (d := fd10) rfl
  have D10 : FunD K "is_span" "is_span" (defArgs s_is_span) (defBody s_is_span) (defScope s_is_span) [] [] (He.fAd K ("is_span", none)) g10 := D10
  obtain ⟨g11, D11⟩ := cd.def_ 11 (d := fd11) rfl
  have D11 : FunD K "is_limit" "is_limit" (defArgs s_is_limit) (defBody s_is_limit) (defScope s_is_limit) [] [] (He.fAd K ("is_limit", none)) g11 := D11
  obtain ⟨g12, D12⟩ := cd.def_ 12 (d := fd12) rfl
  have D12 : FunD K "require_name" "require_name" (defArgs s_require_name) (defBody s_require_name) (defScope s_require_name) [] [] (He.fAd K ("require_name", none)) g12 := D12
  obtain ⟨g13, D13⟩ := cd.def_ 13 (d := fd13) rfl
  have D13 : FunD K "require_span" "require_span" (defArgs s_require_span) (defBody s_require_span) (defScope s_require_span) [] [] (He.fAd K ("require_span", none)) g13 := D13
  obtain ⟨g14, D14⟩ := cd.def_ 14 (d := fd14) rfl
  have D14 : FunD K "meet" "meet" (defArgs s_meet) (defBody s_meet) (defScope s_meet) [] [] (He.fAd K ("meet", none)) g14 := D14
  obtain ⟨g15, D15⟩ := cd.def_ 15 (d := fd15) rfl
  have D15 : FunD K "common" "common" (defArgs s_common) (defBody s_common) (defScope s_common) [] [] (He.fAd K ("common", none)) g15 := D15
  obtain ⟨g16, D16⟩ := cd.def_ 16 (d := fd16) rfl
  have D16 : FunD K "span_text" "span_text" (defArgs s_span_text) (defBody s_span_text) (defScope s_span_text) [] [] (He.fAd K ("span_text", none)) g16 := D16
  obtain ⟨g17, D17⟩ := cd.def_ 17 (d := fd17) rfl
  have D17 : FunD K "limit_text" "limit_text" (defArgs s_limit_text) (defBody s_limit_text) (defScope s_limit_text) [] [] (He.fAd K ("limit_text", none)) g17 := D17
  obtain ⟨g18, D18⟩ := cd.def_ 18 (d := fd18) rfl
  have D18 : FunD K "read_span" "read_span" (defArgs s_read_span) (defBody s_read_span) (defScope s_read_span) [] [] (He.fAd K ("read_span", none)) g18 := D18
  obtain ⟨g19, D19⟩ := cd.def_ 19 (d := fd19) rfl
  have D19 : FunD K "is_limit_text" "is_limit_text" (defArgs s_is_limit_text) (defBody s_is_limit_text) (defScope s_is_limit_text) [] [] (He.fAd K ("is_limit_text", none)) g19 := D19
  obtain ⟨g20, D20⟩ := cd.def_ 20 (d := fd20) rfl
  have D20 : FunD K "read_limit" "read_limit" (defArgs s_read_limit) (defBody s_read_limit) (defScope s_read_limit) [] [] (He.fAd K ("read_limit", none)) g20 := D20
  obtain ⟨g21, D21⟩ := cd.def_ 21 (d := fd21) rfl
  have D21 : FunD K "is_number_text" "is_number_text" (defArgs s_is_number_text) (defBody s_is_number_text) (defScope s_is_number_text) [] [] (He.fAd K ("is_number_text", none)) g21 := D21
  obtain ⟨g22, D22⟩ := cd.def_ 22 (d := fd22) rfl
  have D22 : FunD K "__init__" "Catalog.__init__" (defArgs s_Catalog_init) (defBody s_Catalog_init) (defScope s_Catalog_init) [.non] [("rest", .non)] (He.fAd K ("Catalog", some "__init__")) g22 := D22
  have HK22_Catalog_init_2_rest : ∃ its mv : List Value, KBn K g22 ["self", "spans", "rest"] 2 ["rest"] (fun us ws => gk3_Catalog_init_2_rest us its mv ws) (fun vs zs => gk3_Catalog_init_2_rest vs [.non] (([] : List (Str × V)).map (·.2)) zs) := D22.kbinds 2 ["rest"] [] (fun {α} us its mv ws => gk3_Catalog_init_2_rest us its mv ws) (by decide) (by decide) (fun _ h => nomatch h) (fun {vs ds mz zs us its mv ws} r1 r2 r3 r4 => gk3_Catalog_init_2_rest_rel r1 r2 r3 r4) fun _ _ _ _ _ _ _ us its mv ws h1 h2 h3 h4 => by
    match us, its, mv, ws, h1, h2, h3, h4 with
    | [_, _], [_], [], [_], _, _, _, _ => exact ⟨_, rfl, rfl⟩
  obtain ⟨it_Catalog_init_2_rest, mv_Catalog_init_2_rest, kb_Catalog_init_2_rest⟩ := HK22_Catalog_init_2_rest
  obtain ⟨ds_Catalog_init_1, vd_Catalog_init_1, bd_Catalog_init_1⟩ := D22.binds (ps := ["self", "spans", "rest"]) 1 0 (by decide) rfl (fun _ _ _ _ _ _ _ us its ks h1 h2 h3 => by
    match us, its, ks, h1, h2, h3 with
    | [_], [_], [_], _, _, _ => exact ⟨_, rfl, _, _, _, _, _, _, rfl, rfl, rfl⟩) (by decide)
  obtain ⟨g23, D23⟩ := cd.def_ 23 (d := fd23) rfl
  have D23 : FunD K "__eq__" "Catalog.__eq__" (defArgs s_Catalog_eq) (defBody s_Catalog_eq) (defScope s_Catalog_eq) [] [] (He.fAd K ("Catalog", some "__eq__")) g23 := D23
  obtain ⟨g24, D24⟩ := cd.def_ 24 (d := fd24) rfl
  have D24 : FunD K "__str__" "Catalog.__str__" (defArgs s_Catalog_str) (defBody s_Catalog_str) (defScope s_Catalog_str) [] [] (He.fAd K ("Catalog", some "__str__")) g24 := D24
  obtain ⟨g25, D25⟩ := cd.def_ 25 (d := fd25) rfl
  have D25 : FunD K "require_spans" "require_spans" (defArgs s_require_spans) (defBody s_require_spans) (defScope s_require_spans) [] [] (He.fAd K ("require_spans", none)) g25 := D25
  obtain ⟨g26, D26⟩ := cd.def_ 26 (d := fd26) rfl
  have D26 : FunD K "require_rest" "require_rest" (defArgs s_require_rest) (defBody s_require_rest) (defScope s_require_rest) [] [] (He.fAd K ("require_rest", none)) g26 := D26
  obtain ⟨g27, D27⟩ := cd.def_ 27 (d := fd27) rfl
  have D27 : FunD K "ordered_spans" "ordered_spans" (defArgs s_ordered_spans) (defBody s_ordered_spans) (defScope s_ordered_spans) [] [] (He.fAd K ("ordered_spans", none)) g27 := D27
  obtain ⟨g28, D28⟩ := cd.def_ 28 (d := fd28) rfl
  have D28 : FunD K "first_meeting" "first_meeting" (defArgs s_first_meeting) (defBody s_first_meeting) (defScope s_first_meeting) [] [] (He.fAd K ("first_meeting", none)) g28 := D28
  obtain ⟨g29, D29⟩ := cd.def_ 29 (d := fd29) rfl
  have D29 : FunD K "all_stretches" "all_stretches" (defArgs s_all_stretches) (defBody s_all_stretches) (defScope s_all_stretches) [] [] (He.fAd K ("all_stretches", none)) g29 := D29
  obtain ⟨g30, D30⟩ := cd.def_ 30 (d := fd30) rfl
  have D30 : FunD K "low_place" "low_place" (defArgs s_low_place) (defBody s_low_place) (defScope s_low_place) [] [] (He.fAd K ("low_place", none)) g30 := D30
  obtain ⟨g31, D31⟩ := cd.def_ 31 (d := fd31) rfl
  have D31 : FunD K "read_catalog" "read_catalog" (defArgs s_read_catalog) (defBody s_read_catalog) (defScope s_read_catalog) [] [] (He.fAd K ("read_catalog", none)) g31 := D31
  obtain ⟨g32, D32⟩ := cd.def_ 32 (d := fd32) rfl
  have D32 : FunD K "parsed_catalog" "parsed_catalog" (defArgs s_parsed_catalog) (defBody s_parsed_catalog) (defScope s_parsed_catalog) [] [] (He.fAd K ("parsed_catalog", none)) g32 := D32
  obtain ⟨g33, D33⟩ := cd.def_ 33 (d := fd33) rfl
  have D33 : FunD K "_law_cell" "_law_cell" (defArgs s_law_cell) (defBody s_law_cell) (defScope s_law_cell) [] [] (He.fAd K ("_law_cell", none)) g33 := D33
  obtain ⟨g34, D34⟩ := cd.def_ 34 (d := fd34) rfl
  have D34 : FunD K "_law_box" "_law_box" (defArgs s_law_box) (defBody s_law_box) (defScope s_law_box) [] [] (He.fAd K ("_law_box", none)) g34 := D34
  obtain ⟨g35, D35⟩ := cd.def_ 35 (d := fd35) rfl
  have D35 : FunD K "_law_take" "_law_take" (defArgs s_law_take) (defBody s_law_take) (defScope s_law_take) [] [] (He.fAd K ("_law_take", none)) g35 := D35
  obtain ⟨g36, D36⟩ := cd.def_ 36 (d := fd36) rfl
  have D36 : FunD K "_law_mixed" "_law_mixed" (defArgs s_law_mixed) (defBody s_law_mixed) (defScope s_law_mixed) [] [] (He.fAd K ("_law_mixed", none)) g36 := D36
  obtain ⟨g37, D37⟩ := cd.def_ 37 (d := fd37) rfl
  have D37 : FunD K "_law_names" "_law_names" (defArgs s_law_names) (defBody s_law_names) (defScope s_law_names) [] [] (He.fAd K ("_law_names", none)) g37 := D37
  obtain ⟨g38, D38⟩ := cd.def_ 38 (d := fd38) rfl
  have D38 : FunD K "_law_model" "_law_model" (defArgs s_law_model) (defBody s_law_model) (defScope s_law_model) [] [] (He.fAd K ("_law_model", none)) g38 := D38
  obtain ⟨g39, D39⟩ := cd.def_ 39 (d := fd39) rfl
  have D39 : FunD K "_law_catalog" "_law_catalog" (defArgs s_law_catalog) (defBody s_law_catalog) (defScope s_law_catalog) [] [] (He.fAd K ("_law_catalog", none)) g39 := D39
  obtain ⟨g40, D40⟩ := cd.def_ 40 (d := fd40) rfl
  have D40 : FunD K "_law_text" "_law_text" (defArgs s_law_text) (defBody s_law_text) (defScope s_law_text) [] [] (He.fAd K ("_law_text", none)) g40 := D40
  obtain ⟨g41, D41⟩ := cd.def_ 41 (d := fd41) rfl
  have D41 : FunD K "_law_is_name" "_law_is_name" (defArgs s_law_is_name) (defBody s_law_is_name) (defScope s_law_is_name) [] [] (He.fAd K ("_law_is_name", none)) g41 := D41
  obtain ⟨g42, D42⟩ := cd.def_ 42 (d := fd42) rfl
  have D42 : FunD K "_law_number" "_law_number" (defArgs s_law_number) (defBody s_law_number) (defScope s_law_number) [] [] (He.fAd K ("_law_number", none)) g42 := D42
  obtain ⟨g43, D43⟩ := cd.def_ 43 (d := fd43) rfl
  have D43 : FunD K "_law_span" "_law_span" (defArgs s_law_span) (defBody s_law_span) (defScope s_law_span) [] [] (He.fAd K ("_law_span", none)) g43 := D43
  obtain ⟨g44, D44⟩ := cd.def_ 44 (d := fd44) rfl
  have D44 : FunD K "_law_meet" "_law_meet" (defArgs s_law_meet) (defBody s_law_meet) (defScope s_law_meet) [] [] (He.fAd K ("_law_meet", none)) g44 := D44
  obtain ⟨g45, D45⟩ := cd.def_ 45 (d := fd45) rfl
  have D45 : FunD K "_law_read" "_law_read" (defArgs s_law_read) (defBody s_law_read) (defScope s_law_read) [] [] (He.fAd K ("_law_read", none)) g45 := D45
  obtain ⟨g46, D46⟩ := cd.def_ 46 (d := fd46) rfl
  have D46 : FunD K "_law_told" "_law_told" (defArgs s_law_told) (defBody s_law_told) (defScope s_law_told) [] [] (He.fAd K ("_law_told", none)) g46 := D46
  obtain ⟨g47, D47⟩ := cd.def_ 47 (d := fd47) rfl
  have D47 : FunD K "_law_bent" "_law_bent" (defArgs s_law_bent) (defBody s_law_bent) (defScope s_law_bent) [] [] (He.fAd K ("_law_bent", none)) g47 := D47
  obtain ⟨g48, D48⟩ := cd.def_ 48 (d := fd48) rfl
  have D48 : FunD K "law" "law" (defArgs s_law) (defBody s_law) (defScope s_law) [] [] (He.fAd K ("law", none)) g48 := D48
  have z0 := clsX_ok (List.all_eq_true.mp e1 ("InvalidName", "value") (List.mem_of_getElem? (i := 0) rfl))
  have z1 := clsX_ok (List.all_eq_true.mp e1 ("InvalidSpan", "value") (List.mem_of_getElem? (i := 1) rfl))
  have z2 := clsX_ok (List.all_eq_true.mp e1 ("InvalidSpans", "value") (List.mem_of_getElem? (i := 2) rfl))
  have z3 := clsX_ok (List.all_eq_true.mp e1 ("InvalidText", "value") (List.mem_of_getElem? (i := 3) rfl))
  have z4 := clsX_ok (List.all_eq_true.mp e1 ("UnknownPart", "name") (List.mem_of_getElem? (i := 4) rfl))
  have z5 := clsX_ok (List.all_eq_true.mp e1 ("NameTaken", "name") (List.mem_of_getElem? (i := 5) rfl))
  have z6 := clsX_ok (List.all_eq_true.mp e1 ("Overlap", "name") (List.mem_of_getElem? (i := 6) rfl))
  have z7 := clsX_ok (List.all_eq_true.mp e1 ("TooMany", "bound") (List.mem_of_getElem? (i := 7) rfl))
  have iz0 := insX_ok (x := "Catalog") e2 (He.cls_ok (x := "Catalog") (cd.fact 47 rfl))
  obtain ⟨u_LONGEST_NAME, v_LONGEST_NAME⟩ := He.int_ok X G (x := "LONGEST_NAME") (i := 8) (cd.fact 65 rfl)
  obtain ⟨u_MOST_DIGITS, v_MOST_DIGITS⟩ := He.int_ok X G (x := "MOST_DIGITS") (i := 30) (cd.fact 66 rfl)
  obtain ⟨u_MOST_PARTS, v_MOST_PARTS⟩ := He.int_ok X G (x := "MOST_PARTS") (i := 8) (cd.fact 67 rfl)
  refine ⟨g48, tfL.map (He.cT K), sp_lawT K (He.cT K ("all_stretches", none)).2, fun p hp => ?_, fun p hp => ?_, fun p hp => ?_, fun s v => .of_eq (by
    obtain ⟨_, _, _, _, _, _, _, _, _, rfl, _⟩ := (funOfD D48).ex
    rfl), fun H a ns hl _ hT hS => ⟨a, ns, rfl, hS, hl, LamX.TabS.nil (hT _ (List.mem_map.mpr ⟨_, List.mem_of_getElem? (i := 0) rfl, rfl⟩)), fun _ => rfl⟩, fun base _ _ hTB' => ?_⟩
  · obtain ⟨z, hz, rfl⟩ := List.mem_map.mp hp
    exact c.empty z hz
  · obtain ⟨z, hz, rfl⟩ := List.mem_map.mp hp
    exact c.out z hz
  · obtain ⟨z, hz, rfl⟩ := List.mem_map.mp hp
    exact PySem.W.codeHd_of_K X (c.hd z hz)
  have hTB : ∀ p ∈ tfL, LamX.TabB base mg (He.cT K p).1 (He.cT K p).2 := fun p hp => hTB' _ (List.mem_map.mpr ⟨p, hp, rfl⟩)
  let T : Txt K mg base := {
    f_InvalidName_init := He.fAd K ("InvalidName", some "__init__"), fd_InvalidName_init := g0,
    F_InvalidName_init := funOfD D0, b_InvalidName_init := (funOfD D0).binds (ps := ["self", "value"]) fun _ _ _ _ _ _ us hl => match us, hl with | [_, _], _ => rfl,
    f_InvalidSpan_init := He.fAd K ("InvalidSpan", some "__init__"), fd_InvalidSpan_init := g1,
    F_InvalidSpan_init := funOfD D1, b_InvalidSpan_init := (funOfD D1).binds (ps := ["self", "value"]) fun _ _ _ _ _ _ us hl => match us, hl with | [_, _], _ => rfl,
    f_InvalidSpans_init := He.fAd K ("InvalidSpans", some "__init__"), fd_InvalidSpans_init := g2,
    F_InvalidSpans_init := funOfD D2, b_InvalidSpans_init := (funOfD D2).binds (ps := ["self", "value"]) fun _ _ _ _ _ _ us hl => match us, hl with | [_, _], _ => rfl,
    f_InvalidText_init := He.fAd K ("InvalidText", some "__init__"), fd_InvalidText_init := g3,
    F_InvalidText_init := funOfD D3, b_InvalidText_init := (funOfD D3).binds (ps := ["self", "value"]) fun _ _ _ _ _ _ us hl => match us, hl with | [_, _], _ => rfl,
    f_UnknownPart_init := He.fAd K ("UnknownPart", some "__init__"), fd_UnknownPart_init := g4,
    F_UnknownPart_init := funOfD D4, b_UnknownPart_init := (funOfD D4).binds (ps := ["self", "name"]) fun _ _ _ _ _ _ us hl => match us, hl with | [_, _], _ => rfl,
    f_NameTaken_init := He.fAd K ("NameTaken", some "__init__"), fd_NameTaken_init := g5,
    F_NameTaken_init := funOfD D5, b_NameTaken_init := (funOfD D5).binds (ps := ["self", "name"]) fun _ _ _ _ _ _ us hl => match us, hl with | [_, _], _ => rfl,
    f_Overlap_init := He.fAd K ("Overlap", some "__init__"), fd_Overlap_init := g6,
    F_Overlap_init := funOfD D6, b_Overlap_init := (funOfD D6).binds (ps := ["self", "name"]) fun _ _ _ _ _ _ us hl => match us, hl with | [_, _], _ => rfl,
    f_TooMany_init := He.fAd K ("TooMany", some "__init__"), fd_TooMany_init := g7,
    F_TooMany_init := funOfD D7, b_TooMany_init := (funOfD D7).binds (ps := ["self", "bound"]) fun _ _ _ _ _ _ us hl => match us, hl with | [_, _], _ => rfl,
    f_is_integer := He.fAd K ("is_integer", none), fd_is_integer := g8,
    F_is_integer := funOfD D8, b_is_integer := (funOfD D8).binds (ps := ["value"]) fun _ _ _ _ _ _ us hl => match us, hl with | [_], _ => rfl,
    m_is_integer := He.glo_ok X G (cd.fact 0 (f := .glo "is_integer") rfl),
    f_is_name := He.fAd K ("is_name", none), fd_is_name := g9,
    F_is_name := funOfD D9, b_is_name := (funOfD D9).binds (ps := ["value"]) fun _ _ _ _ _ _ us hl => match us, hl with | [_], _ => rfl,
    m_is_name := He.glo_ok X G (cd.fact 1 (f := .glo "is_name") rfl),
    f_is_span := He.fAd K ("is_span", none), fd_is_span := g10,
    F_is_span := funOfD D10, b_is_span := (funOfD D10).binds (ps := ["value"]) fun _ _ _ _ _ _ us hl => match us, hl with | [_], _ => rfl,
    m_is_span := He.glo_ok X G (cd.fact 2 (f := .glo "is_span") rfl),
    f_is_limit := He.fAd K ("is_limit", none), fd_is_limit := g11,
    F_is_limit := funOfD D11, b_is_limit := (funOfD D11).binds (ps := ["value"]) fun _ _ _ _ _ _ us hl => match us, hl with | [_], _ => rfl,
    m_is_limit := He.glo_ok X G (cd.fact 3 (f := .glo "is_limit") rfl),
    f_require_name := He.fAd K ("require_name", none), fd_require_name := g12,
    F_require_name := funOfD D12, b_require_name := (funOfD D12).binds (ps := ["value"]) fun _ _ _ _ _ _ us hl => match us, hl with | [_], _ => rfl,
    m_require_name := He.glo_ok X G (cd.fact 4 (f := .glo "require_name") rfl),
    f_require_span := He.fAd K ("require_span", none), fd_require_span := g13,
    F_require_span := funOfD D13, b_require_span := (funOfD D13).binds (ps := ["value"]) fun _ _ _ _ _ _ us hl => match us, hl with | [_], _ => rfl,
    m_require_span := He.glo_ok X G (cd.fact 5 (f := .glo "require_span") rfl),
    f_meet := He.fAd K ("meet", none), fd_meet := g14,
    F_meet := funOfD D14, b_meet := (funOfD D14).binds (ps := ["one", "other"]) fun _ _ _ _ _ _ us hl => match us, hl with | [_, _], _ => rfl,
    m_meet := He.glo_ok X G (cd.fact 6 (f := .glo "meet") rfl),
    f_common := He.fAd K ("common", none), fd_common := g15,
    F_common := funOfD D15, b_common := (funOfD D15).binds (ps := ["one", "other"]) fun _ _ _ _ _ _ us hl => match us, hl with | [_, _], _ => rfl,
    m_common := He.glo_ok X G (cd.fact 7 (f := .glo "common") rfl),
    f_span_text := He.fAd K ("span_text", none), fd_span_text := g16,
    F_span_text := funOfD D16, b_span_text := (funOfD D16).binds (ps := ["span"]) fun _ _ _ _ _ _ us hl => match us, hl with | [_], _ => rfl,
    m_span_text := He.glo_ok X G (cd.fact 8 (f := .glo "span_text") rfl),
    f_limit_text := He.fAd K ("limit_text", none), fd_limit_text := g17,
    F_limit_text := funOfD D17, b_limit_text := (funOfD D17).binds (ps := ["limit"]) fun _ _ _ _ _ _ us hl => match us, hl with | [_], _ => rfl,
    m_limit_text := He.glo_ok X G (cd.fact 9 (f := .glo "limit_text") rfl),
    f_read_span := He.fAd K ("read_span", none), fd_read_span := g18,
    F_read_span := funOfD D18, b_read_span := (funOfD D18).binds (ps := ["text"]) fun _ _ _ _ _ _ us hl => match us, hl with | [_], _ => rfl,
    m_read_span := He.glo_ok X G (cd.fact 10 (f := .glo "read_span") rfl),
    f_is_limit_text := He.fAd K ("is_limit_text", none), fd_is_limit_text := g19,
    F_is_limit_text := funOfD D19, b_is_limit_text := (funOfD D19).binds (ps := ["text"]) fun _ _ _ _ _ _ us hl => match us, hl with | [_], _ => rfl,
    m_is_limit_text := He.glo_ok X G (cd.fact 11 (f := .glo "is_limit_text") rfl),
    f_read_limit := He.fAd K ("read_limit", none), fd_read_limit := g20,
    F_read_limit := funOfD D20, b_read_limit := (funOfD D20).binds (ps := ["text"]) fun _ _ _ _ _ _ us hl => match us, hl with | [_], _ => rfl,
    m_read_limit := He.glo_ok X G (cd.fact 12 (f := .glo "read_limit") rfl),
    f_is_number_text := He.fAd K ("is_number_text", none), fd_is_number_text := g21,
    F_is_number_text := funOfD D21, b_is_number_text := (funOfD D21).binds (ps := ["text"]) fun _ _ _ _ _ _ us hl => match us, hl with | [_], _ => rfl,
    m_is_number_text := He.glo_ok X G (cd.fact 13 (f := .glo "is_number_text") rfl),
    f_Catalog_init := He.fAd K ("Catalog", some "__init__"), fd_Catalog_init := g22,
    F_Catalog_init := D22,
    gk_Catalog_init_2_rest := fun us ws => gk3_Catalog_init_2_rest us it_Catalog_init_2_rest mv_Catalog_init_2_rest ws, kb_Catalog_init_2_rest := ⟨kb_Catalog_init_2_rest.to, fun {vs us zs ws} r1 r2 => gv3_Catalog_init_2_rest_rel r1 r2⟩,
    ds_Catalog_init_1 := ds_Catalog_init_1, bd_Catalog_init_1 := bd_Catalog_init_1, vd_Catalog_init_1 := vd_Catalog_init_1,
    f_Catalog_eq := He.fAd K ("Catalog", some "__eq__"), fd_Catalog_eq := g23,
    F_Catalog_eq := funOfD D23, b_Catalog_eq := (funOfD D23).binds (ps := ["self", "other"]) fun _ _ _ _ _ _ us hl => match us, hl with | [_, _], _ => rfl,
    f_Catalog_str := He.fAd K ("Catalog", some "__str__"), fd_Catalog_str := g24,
    F_Catalog_str := funOfD D24, b_Catalog_str := (funOfD D24).binds (ps := ["self"]) fun _ _ _ _ _ _ us hl => match us, hl with | [_], _ => rfl,
    f_require_spans := He.fAd K ("require_spans", none), fd_require_spans := g25,
    F_require_spans := funOfD D25, b_require_spans := (funOfD D25).binds (ps := ["spans"]) fun _ _ _ _ _ _ us hl => match us, hl with | [_], _ => rfl,
    m_require_spans := He.glo_ok X G (cd.fact 14 (f := .glo "require_spans") rfl),
    f_require_rest := He.fAd K ("require_rest", none), fd_require_rest := g26,
    F_require_rest := funOfD D26, b_require_rest := (funOfD D26).binds (ps := ["rest", "spans"]) fun _ _ _ _ _ _ us hl => match us, hl with | [_, _], _ => rfl,
    m_require_rest := He.glo_ok X G (cd.fact 15 (f := .glo "require_rest") rfl),
    f_ordered_spans := He.fAd K ("ordered_spans", none), fd_ordered_spans := g27,
    F_ordered_spans := funOfD D27, b_ordered_spans := (funOfD D27).binds (ps := ["spans"]) fun _ _ _ _ _ _ us hl => match us, hl with | [_], _ => rfl,
    m_ordered_spans := He.glo_ok X G (cd.fact 16 (f := .glo "ordered_spans") rfl),
    f_first_meeting := He.fAd K ("first_meeting", none), fd_first_meeting := g28,
    F_first_meeting := funOfD D28, b_first_meeting := (funOfD D28).binds (ps := ["spans", "span"]) fun _ _ _ _ _ _ us hl => match us, hl with | [_, _], _ => rfl,
    m_first_meeting := He.glo_ok X G (cd.fact 17 (f := .glo "first_meeting") rfl),
    f_all_stretches := He.fAd K ("all_stretches", none), fd_all_stretches := g29,
    F_all_stretches := funOfD D29, b_all_stretches := (funOfD D29).binds (ps := ["spans", "rest"]) fun _ _ _ _ _ _ us hl => match us, hl with | [_, _], _ => rfl,
    cc_all_stretches := He.codeOf K ("all_stretches", none), pt_all_stretches := (He.cT K ("all_stretches", none)).2, FC_all_stretches := funC_of D29, tb_all_stretches := hTB _ (List.mem_of_getElem? (i := 0) rfl),
    m_all_stretches := He.glo_ok X G (cd.fact 18 (f := .glo "all_stretches") rfl),
    f_low_place := He.fAd K ("low_place", none), fd_low_place := g30,
    F_low_place := funOfD D30, b_low_place := (funOfD D30).binds (ps := ["span"]) fun _ _ _ _ _ _ us hl => match us, hl with | [_], _ => rfl,
    m_low_place := He.glo_ok X G (cd.fact 19 (f := .glo "low_place") rfl),
    f_read_catalog := He.fAd K ("read_catalog", none), fd_read_catalog := g31,
    F_read_catalog := funOfD D31, b_read_catalog := (funOfD D31).binds (ps := ["text"]) fun _ _ _ _ _ _ us hl => match us, hl with | [_], _ => rfl,
    m_read_catalog := He.glo_ok X G (cd.fact 20 (f := .glo "read_catalog") rfl),
    f_parsed_catalog := He.fAd K ("parsed_catalog", none), fd_parsed_catalog := g32,
    F_parsed_catalog := funOfD D32, b_parsed_catalog := (funOfD D32).binds (ps := ["text"]) fun _ _ _ _ _ _ us hl => match us, hl with | [_], _ => rfl,
    m_parsed_catalog := He.glo_ok X G (cd.fact 21 (f := .glo "parsed_catalog") rfl),
    f_law_cell := He.fAd K ("_law_cell", none), fd_law_cell := g33,
    F_law_cell := funOfD D33, b_law_cell := (funOfD D33).binds (ps := ["_law_script", "_law_k"]) fun _ _ _ _ _ _ us hl => match us, hl with | [_, _], _ => rfl,
    m_law_cell := He.glo_ok X G (cd.fact 22 (f := .glo "_law_cell") rfl),
    f_law_box := He.fAd K ("_law_box", none), fd_law_box := g34,
    F_law_box := funOfD D34, b_law_box := (funOfD D34).binds (ps := ["_law_cell_here"]) fun _ _ _ _ _ _ us hl => match us, hl with | [_], _ => rfl,
    m_law_box := He.glo_ok X G (cd.fact 23 (f := .glo "_law_box") rfl),
    f_law_take := He.fAd K ("_law_take", none), fd_law_take := g35,
    F_law_take := funOfD D35, b_law_take := (funOfD D35).binds (ps := ["_law_box_here", "_law_many"]) fun _ _ _ _ _ _ us hl => match us, hl with | [_, _], _ => rfl,
    m_law_take := He.glo_ok X G (cd.fact 24 (f := .glo "_law_take") rfl),
    f_law_mixed := He.fAd K ("_law_mixed", none), fd_law_mixed := g36,
    F_law_mixed := funOfD D36, b_law_mixed := (funOfD D36).binds (ps := ["_law_box_here", "_law_some"]) fun _ _ _ _ _ _ us hl => match us, hl with | [_, _], _ => rfl,
    m_law_mixed := He.glo_ok X G (cd.fact 25 (f := .glo "_law_mixed") rfl),
    f_law_names := He.fAd K ("_law_names", none), fd_law_names := g37,
    F_law_names := funOfD D37, b_law_names := (funOfD D37).binds (ps := ["_law_box_here", "_law_many"]) fun _ _ _ _ _ _ us hl => match us, hl with | [_, _], _ => rfl,
    m_law_names := He.glo_ok X G (cd.fact 26 (f := .glo "_law_names") rfl),
    f_law_model := He.fAd K ("_law_model", none), fd_law_model := g38,
    F_law_model := funOfD D38, b_law_model := (funOfD D38).binds (ps := ["_law_box_here", "_law_most"]) fun _ _ _ _ _ _ us hl => match us, hl with | [_, _], _ => rfl,
    m_law_model := He.glo_ok X G (cd.fact 27 (f := .glo "_law_model") rfl),
    f_law_catalog := He.fAd K ("_law_catalog", none), fd_law_catalog := g39,
    F_law_catalog := funOfD D39, b_law_catalog := (funOfD D39).binds (ps := ["_law_box_here", "_law_model_here"]) fun _ _ _ _ _ _ us hl => match us, hl with | [_, _], _ => rfl,
    m_law_catalog := He.glo_ok X G (cd.fact 28 (f := .glo "_law_catalog") rfl),
    f_law_text := He.fAd K ("_law_text", none), fd_law_text := g40,
    F_law_text := funOfD D40, b_law_text := (funOfD D40).binds (ps := ["_law_model_here"]) fun _ _ _ _ _ _ us hl => match us, hl with | [_], _ => rfl,
    m_law_text := He.glo_ok X G (cd.fact 29 (f := .glo "_law_text") rfl),
    f_law_is_name := He.fAd K ("_law_is_name", none), fd_law_is_name := g41,
    F_law_is_name := funOfD D41, b_law_is_name := (funOfD D41).binds (ps := ["_law_word"]) fun _ _ _ _ _ _ us hl => match us, hl with | [_], _ => rfl,
    m_law_is_name := He.glo_ok X G (cd.fact 30 (f := .glo "_law_is_name") rfl),
    f_law_number := He.fAd K ("_law_number", none), fd_law_number := g42,
    F_law_number := funOfD D42, b_law_number := (funOfD D42).binds (ps := ["_law_word"]) fun _ _ _ _ _ _ us hl => match us, hl with | [_], _ => rfl,
    m_law_number := He.glo_ok X G (cd.fact 31 (f := .glo "_law_number") rfl),
    f_law_span := He.fAd K ("_law_span", none), fd_law_span := g43,
    F_law_span := funOfD D43, b_law_span := (funOfD D43).binds (ps := ["_law_word"]) fun _ _ _ _ _ _ us hl => match us, hl with | [_], _ => rfl,
    m_law_span := He.glo_ok X G (cd.fact 32 (f := .glo "_law_span") rfl),
    f_law_meet := He.fAd K ("_law_meet", none), fd_law_meet := g44,
    F_law_meet := funOfD D44, b_law_meet := (funOfD D44).binds (ps := ["_law_one", "_law_other"]) fun _ _ _ _ _ _ us hl => match us, hl with | [_, _], _ => rfl,
    m_law_meet := He.glo_ok X G (cd.fact 33 (f := .glo "_law_meet") rfl),
    f_law_read := He.fAd K ("_law_read", none), fd_law_read := g45,
    F_law_read := funOfD D45, b_law_read := (funOfD D45).binds (ps := ["_law_text_here"]) fun _ _ _ _ _ _ us hl => match us, hl with | [_], _ => rfl,
    m_law_read := He.glo_ok X G (cd.fact 34 (f := .glo "_law_read") rfl),
    f_law_told := He.fAd K ("_law_told", none), fd_law_told := g46,
    F_law_told := funOfD D46, b_law_told := (funOfD D46).binds (ps := ["_law_value"]) fun _ _ _ _ _ _ us hl => match us, hl with | [_], _ => rfl,
    m_law_told := He.glo_ok X G (cd.fact 35 (f := .glo "_law_told") rfl),
    f_law_bent := He.fAd K ("_law_bent", none), fd_law_bent := g47,
    F_law_bent := funOfD D47, b_law_bent := (funOfD D47).binds (ps := ["_law_box_here", "_law_text_here"]) fun _ _ _ _ _ _ us hl => match us, hl with | [_, _], _ => rfl,
    m_law_bent := He.glo_ok X G (cd.fact 36 (f := .glo "_law_bent") rfl),
    f_law := He.fAd K ("law", none), fd_law := g48,
    F_law := funOfD D48, b_law := (funOfD D48).binds (ps := ["_law_script"]) fun _ _ _ _ _ _ us hl => match us, hl with | [_], _ => rfl,
    m_law := He.glo_ok X G (cd.fact 37 (f := .glo "law") rfl),
    C_InvalidName := He.ga K "InvalidName", g_InvalidName := He.glo_ok X G (cd.fact 38 (f := .glo "InvalidName") rfl), x_InvalidName := z0.1, y_InvalidName := z0.2.1, n_InvalidName := z0.2.2.1, i_InvalidName := z0.2.2.2.1, t_InvalidName := z0.2.2.2.2,
    C_InvalidSpan := He.ga K "InvalidSpan", g_InvalidSpan := He.glo_ok X G (cd.fact 39 (f := .glo "InvalidSpan") rfl), x_InvalidSpan := z1.1, y_InvalidSpan := z1.2.1, n_InvalidSpan := z1.2.2.1, i_InvalidSpan := z1.2.2.2.1, t_InvalidSpan := z1.2.2.2.2,
    C_InvalidSpans := He.ga K "InvalidSpans", g_InvalidSpans := He.glo_ok X G (cd.fact 40 (f := .glo "InvalidSpans") rfl), x_InvalidSpans := z2.1, y_InvalidSpans := z2.2.1, n_InvalidSpans := z2.2.2.1, i_InvalidSpans := z2.2.2.2.1, t_InvalidSpans := z2.2.2.2.2,
    C_InvalidText := He.ga K "InvalidText", g_InvalidText := He.glo_ok X G (cd.fact 41 (f := .glo "InvalidText") rfl), x_InvalidText := z3.1, y_InvalidText := z3.2.1, n_InvalidText := z3.2.2.1, i_InvalidText := z3.2.2.2.1, t_InvalidText := z3.2.2.2.2,
    C_UnknownPart := He.ga K "UnknownPart", g_UnknownPart := He.glo_ok X G (cd.fact 42 (f := .glo "UnknownPart") rfl), x_UnknownPart := z4.1, y_UnknownPart := z4.2.1, n_UnknownPart := z4.2.2.1, i_UnknownPart := z4.2.2.2.1, t_UnknownPart := z4.2.2.2.2,
    C_NameTaken := He.ga K "NameTaken", g_NameTaken := He.glo_ok X G (cd.fact 43 (f := .glo "NameTaken") rfl), x_NameTaken := z5.1, y_NameTaken := z5.2.1, n_NameTaken := z5.2.2.1, i_NameTaken := z5.2.2.2.1, t_NameTaken := z5.2.2.2.2,
    C_Overlap := He.ga K "Overlap", g_Overlap := He.glo_ok X G (cd.fact 44 (f := .glo "Overlap") rfl), x_Overlap := z6.1, y_Overlap := z6.2.1, n_Overlap := z6.2.2.1, i_Overlap := z6.2.2.2.1, t_Overlap := z6.2.2.2.2,
    C_TooMany := He.ga K "TooMany", g_TooMany := He.glo_ok X G (cd.fact 45 (f := .glo "TooMany") rfl), x_TooMany := z7.1, y_TooMany := z7.2.1, n_TooMany := z7.2.2.1, i_TooMany := z7.2.2.2.1, t_TooMany := z7.2.2.2.2,
    C_PartsError := He.ga K "PartsError", g_PartsError := He.glo_ok X G (cd.fact 46 (f := .glo "PartsError") rfl),
    C_Catalog := He.ga K "Catalog", g_Catalog := He.glo_ok X G (cd.fact 48 (f := .glo "Catalog") rfl), cl_Catalog := He.cls_ok (x := "Catalog") (cd.fact 47 rfl), mk_Catalog := He.mkr_ok (x := "Catalog") (cd.fact 49 rfl), ic_Catalog := iz0.1,
    me_Catalog_init := He.meth_ok (x := "Catalog") (m := "__init__") (cd.fact 50 rfl),
    me_Catalog_eq := He.meth_ok (x := "Catalog") (m := "__eq__") (cd.fact 51 rfl),
    me_Catalog_str := He.meth_ok (x := "Catalog") (m := "__str__") (cd.fact 52 rfl),
    no_Catalog_spans := He.noat_ok (x := "Catalog") (f := "_spans") (cd.fact 53 rfl),
    no_Catalog_rest := He.noat_ok (x := "Catalog") (f := "_rest") (cd.fact 54 rfl),
    no_Catalog_names := He.noat_ok (x := "Catalog") (f := "_names") (cd.fact 55 rfl),
    no_Catalog_stretches := He.noat_ok (x := "Catalog") (f := "_stretches") (cd.fact 56 rfl),
    io_Catalog_list := iz0.2.1, nf_Catalog_list := iz0.2.2.1, io_Catalog_str := iz0.2.2.2.1, nf_Catalog_str := iz0.2.2.2.2,
    io_own_Catalog_str := of_decide_eq_true e3,
    e_InvalidName_PartsError := He.exm_ok (x := "InvalidName") (y := "PartsError") (cd.fact 57 rfl),
    e_InvalidSpan_PartsError := He.exm_ok (x := "InvalidSpan") (y := "PartsError") (cd.fact 58 rfl),
    e_InvalidSpans_PartsError := He.exm_ok (x := "InvalidSpans") (y := "PartsError") (cd.fact 59 rfl),
    e_InvalidText_PartsError := He.exm_ok (x := "InvalidText") (y := "PartsError") (cd.fact 60 rfl),
    e_NameTaken_PartsError := He.exm_ok (x := "NameTaken") (y := "PartsError") (cd.fact 61 rfl),
    e_Overlap_PartsError := He.exm_ok (x := "Overlap") (y := "PartsError") (cd.fact 62 rfl),
    e_TooMany_PartsError := He.exm_ok (x := "TooMany") (y := "PartsError") (cd.fact 63 rfl),
    e_InvalidText_InvalidText := He.exm_ok (x := "InvalidText") (y := "InvalidText") (cd.fact 64 rfl),
    t_LONGEST_NAME := u_LONGEST_NAME, c_LONGEST_NAME := v_LONGEST_NAME,
    t_MOST_DIGITS := u_MOST_DIGITS, c_MOST_DIGITS := v_MOST_DIGITS,
    t_MOST_PARTS := u_MOST_PARTS, c_MOST_PARTS := v_MOST_PARTS,
    z_isinstance := He.free_ok X G (x := "isinstance") (cd.fact 68 rfl),
    z_int := He.free_ok X G (x := "int") (cd.fact 69 rfl),
    z_bool := He.free_ok X G (x := "bool") (cd.fact 70 rfl),
    z_all := He.free_ok X G (x := "all") (cd.fact 71 rfl),
    z_str := He.free_ok X G (x := "str") (cd.fact 72 rfl),
    z_len := He.free_ok X G (x := "len") (cd.fact 73 rfl),
    z_tuple := He.free_ok X G (x := "tuple") (cd.fact 74 rfl),
    z_max := He.free_ok X G (x := "max") (cd.fact 75 rfl),
    z_min := He.free_ok X G (x := "min") (cd.fact 76 rfl),
    z_sorted := He.free_ok X G (x := "sorted") (cd.fact 77 rfl),
    z_list := He.free_ok X G (x := "list") (cd.fact 78 rfl),
    z_dict := He.free_ok X G (x := "dict") (cd.fact 79 rfl),
    z_part := He.free_ok X G (x := "part") (cd.fact 80 rfl),
    z_range := He.free_ok X G (x := "range") (cd.fact 81 rfl) }
  exact ok_law T
end My
open PySem PySem.W PySem.Calls PyProof.Rows
set_option maxRecDepth 100000 in
set_option maxHeartbeats 0 in
theorem PySem.Challenge.cw_hungparts_k09_texts_of_catalogs_holds : PySem.Challenge.rw_hungparts_k09_texts_of_catalogs.Holds := by
  w_on; o_law
  refine HandSHeadRun.head_any (r := My.RW) (q := view My.RW.prog [55]) (H := My.hookM) (ob := My.obN) (M := 6000) (loose := My.looseL) (d := HandSHeadRun.topDef My.RW.prog 55) (kwd := []) My.obN_eq
    (by kernel_rfl) (fun s => by kernel_rfl) My.run (by kernel_rfl) (by kernel_rfl) (by kernel_rfl) (by rfl) (by first | assumption | decide +kernel) (by decide +kernel) ⟨rfl, rfl, rfl, rfl, rfl, by decide +kernel⟩ ?hw ?hc
  case hw => w_witness2
  case hc =>
    refine LamX.walk_ofTsE (l := PySem.Challenge.rw_hungparts_k09_texts_of_catalogs) (n := 63) (k := 14) (x := "_law_script") (CX := fun _ => L2.CX0) rfl (by decide) (by kernel_rfl) ⟨rfl, by decide, by decide⟩ ?F (fun _ _ _ _ _ z => z)
    intro w mg fa h Y G hmg0
    obtain ⟨K, KX, c⟩ := Y
    have hmg : mg ("law" : PySem.Str) = some (.ref fa) := by
      have e : (HandSHeadRun.topDef My.RW.prog 55).name = ("law" : PySem.Str) := by kernel_rfl
      rw [← e]
      exact hmg0
    exact ⟨K, KX, My.facts KX G hmg c⟩
#print axioms PySem.Challenge.cw_hungparts_k09_texts_of_catalogs_holds

