import PyProof.Rows.All
import Wide.All
import OpenK.AllK
import Wide.FinOn
import HandS.ForMost
import HandS.ForExc
import HandS.IsInst
import HandS.Walk
import HandS.Codes
import HandS.SortKw
import HandS.TryMany
import HandS.ExcInit
import HandS.ExcField
import KE.DatumOrd
import HandS.More
import HandS.CallSlots
import HandS.Defaults
import HandS.TupAny
import HandS.Deep
import HandS.Small
import HandS.Style
import HandS.Words
import HandS.Strs
import HandS.Star
import HandS.Flow
import HandS.SlotsOwn
import HandS.DeepEq
import HandS.DictEq
import HandS.DictComp
import HandS.ExcOwn
import KE.KCallOwn
import HandS.StrMore
import HandS.FStr
import KE.KRevSl
import HandS.ExcInitHot
import HandS.SuiteRaise
import HandS.RaiseFrom
import PySem.Challenge.RW_hungparts_k18_texts_of_strengths
set_option Elab.async false
set_option linter.all false
set_option maxRecDepth 100000
set_option maxHeartbeats 4000000

namespace My
open PySem L2
def top (i : Nat) : Stmt := PySem.Challenge.pw_hungparts_k18_texts_of_strengths.main.body.getD i (.Pass ⟨0, 0, 0, 0⟩)
abbrev s_wall : Stmt := top 0
theorem sc_wall : FnScope ["k"] ["k"] (defScope s_wall) := ⟨rfl, rfl, rfl, by decide +kernel, rfl, by decide +kernel, by decide +kernel⟩
abbrev s_InvalidName_init : Stmt := inClass (top 3) 0
theorem sc_InvalidName_init : FnScope ["self", "value"] ["self", "value"] (defScope s_InvalidName_init) := ⟨rfl, rfl, rfl, by decide +kernel, rfl, by decide +kernel, by decide +kernel⟩
abbrev s_InvalidModes_init : Stmt := inClass (top 4) 0
theorem sc_InvalidModes_init : FnScope ["self", "value"] ["self", "value"] (defScope s_InvalidModes_init) := ⟨rfl, rfl, rfl, by decide +kernel, rfl, by decide +kernel, by decide +kernel⟩
abbrev s_InvalidClash_init : Stmt := inClass (top 5) 0
theorem sc_InvalidClash_init : FnScope ["self", "value"] ["self", "value"] (defScope s_InvalidClash_init) := ⟨rfl, rfl, rfl, by decide +kernel, rfl, by decide +kernel, by decide +kernel⟩
abbrev s_InvalidStrengths_init : Stmt := inClass (top 6) 0
theorem sc_InvalidStrengths_init : FnScope ["self", "value"] ["self", "value"] (defScope s_InvalidStrengths_init) := ⟨rfl, rfl, rfl, by decide +kernel, rfl, by decide +kernel, by decide +kernel⟩
abbrev s_InvalidText_init : Stmt := inClass (top 7) 0
theorem sc_InvalidText_init : FnScope ["self", "value"] ["self", "value"] (defScope s_InvalidText_init) := ⟨rfl, rfl, rfl, by decide +kernel, rfl, by decide +kernel, by decide +kernel⟩
abbrev s_Duplicate_init : Stmt := inClass (top 8) 0
theorem sc_Duplicate_init : FnScope ["self", "name"] ["self", "name"] (defScope s_Duplicate_init) := ⟨rfl, rfl, rfl, by decide +kernel, rfl, by decide +kernel, by decide +kernel⟩
abbrev s_UnknownMode_init : Stmt := inClass (top 9) 0
theorem sc_UnknownMode_init : FnScope ["self", "name"] ["self", "name"] (defScope s_UnknownMode_init) := ⟨rfl, rfl, rfl, by decide +kernel, rfl, by decide +kernel, by decide +kernel⟩
abbrev s_is_name : Stmt := top 12
theorem sc_is_name : FnScope ["value", "sign"] ["value"] (defScope s_is_name) := ⟨rfl, rfl, rfl, by decide +kernel, rfl, by decide +kernel, by decide +kernel⟩
abbrev s_require_name : Stmt := top 13
theorem sc_require_name : FnScope ["value"] ["value"] (defScope s_require_name) := ⟨rfl, rfl, rfl, by decide +kernel, rfl, by decide +kernel, by decide +kernel⟩
abbrev s_Strengths_init : Stmt := inClass (top 16) 0
theorem sc_Strengths_init : FnScope ["self", "modes", "clashes", "mode"] ["self", "modes", "clashes"] (defScope s_Strengths_init) := ⟨rfl, rfl, rfl, by decide +kernel, rfl, by decide +kernel, by decide +kernel⟩
abbrev s_Strengths_modes : Stmt := inClass (top 16) 1
theorem sc_Strengths_modes : FnScope ["self"] ["self"] (defScope s_Strengths_modes) := ⟨rfl, rfl, rfl, by decide +kernel, rfl, by decide +kernel, by decide +kernel⟩
abbrev s_Strengths_len : Stmt := inClass (top 16) 2
theorem sc_Strengths_len : FnScope ["self"] ["self"] (defScope s_Strengths_len) := ⟨rfl, rfl, rfl, by decide +kernel, rfl, by decide +kernel, by decide +kernel⟩
abbrev s_Strengths_clash : Stmt := inClass (top 16) 3
theorem sc_Strengths_clash : FnScope ["self", "one", "other"] ["self", "one", "other"] (defScope s_Strengths_clash) := ⟨rfl, rfl, rfl, by decide +kernel, rfl, by decide +kernel, by decide +kernel⟩
abbrev s_Strengths_weaker : Stmt := inClass (top 16) 4
theorem sc_Strengths_weaker : FnScope ["self", "one", "other"] ["self", "one", "other"] (defScope s_Strengths_weaker) := ⟨rfl, rfl, rfl, by decide +kernel, rfl, by decide +kernel, by decide +kernel⟩
abbrev s_Strengths_clashes : Stmt := inClass (top 16) 5
theorem sc_Strengths_clashes : FnScope ["self", "found", "at", "one", "other"] ["self"] (defScope s_Strengths_clashes) := ⟨rfl, rfl, rfl, by decide +kernel, rfl, by decide +kernel, by decide +kernel⟩
abbrev s_Strengths_eq : Stmt := inClass (top 16) 6
theorem sc_Strengths_eq : FnScope ["self", "other"] ["self", "other"] (defScope s_Strengths_eq) := ⟨rfl, rfl, rfl, by decide +kernel, rfl, by decide +kernel, by decide +kernel⟩
abbrev s_Strengths_weakest : Stmt := inClass (top 16) 7
theorem sc_Strengths_weakest : FnScope ["self"] ["self"] (defScope s_Strengths_weakest) := ⟨rfl, rfl, rfl, by decide +kernel, rfl, by decide +kernel, by decide +kernel⟩
abbrev s_Strengths_strongest : Stmt := inClass (top 16) 8
theorem sc_Strengths_strongest : FnScope ["self"] ["self"] (defScope s_Strengths_strongest) := ⟨rfl, rfl, rfl, by decide +kernel, rfl, by decide +kernel, by decide +kernel⟩
abbrev s_Strengths_steps_down : Stmt := inClass (top 16) 9
theorem sc_Strengths_steps_down : FnScope ["self", "mode"] ["self", "mode"] (defScope s_Strengths_steps_down) := ⟨rfl, rfl, rfl, by decide +kernel, rfl, by decide +kernel, by decide +kernel⟩
abbrev s_Strengths_str : Stmt := inClass (top 16) 10
theorem sc_Strengths_str : FnScope ["self", "pairs", "one", "other", "words"] ["self"] (defScope s_Strengths_str) := ⟨rfl, rfl, rfl, by decide +kernel, rfl, by decide +kernel, by decide +kernel⟩
abbrev s_Strengths_require_mode : Stmt := inClass (top 16) 11
theorem sc_Strengths_require_mode : FnScope ["self", "value"] ["self", "value"] (defScope s_Strengths_require_mode) := ⟨rfl, rfl, rfl, by decide +kernel, rfl, by decide +kernel, by decide +kernel⟩
abbrev s_Strengths_below : Stmt := inClass (top 16) 12
theorem sc_Strengths_below : FnScope ["self", "one", "other"] ["self", "one", "other"] (defScope s_Strengths_below) := ⟨rfl, rfl, rfl, by decide +kernel, rfl, by decide +kernel, by decide +kernel⟩
abbrev s_require_modes : Stmt := top 17
theorem sc_require_modes : FnScope ["modes", "at", "name"] ["modes"] (defScope s_require_modes) := ⟨rfl, rfl, rfl, by decide +kernel, rfl, by decide +kernel, by decide +kernel⟩
abbrev s_require_clashes : Stmt := top 18
theorem sc_require_clashes : FnScope ["clashes", "modes", "item", "name"] ["clashes", "modes"] (defScope s_require_clashes) := ⟨rfl, rfl, rfl, by decide +kernel, rfl, by decide +kernel, by decide +kernel⟩
abbrev s_clashing_modes : Stmt := top 19
theorem sc_clashing_modes : FnScope ["mode", "modes", "clashes", "other"] ["mode", "modes", "clashes"] (defScope s_clashing_modes) := ⟨rfl, rfl, rfl, by decide +kernel, rfl, by decide +kernel, by decide +kernel⟩
abbrev s_read_strengths : Stmt := top 20
theorem sc_read_strengths : FnScope ["text", "strengths"] ["text"] (defScope s_read_strengths) := ⟨rfl, rfl, rfl, by decide +kernel, rfl, by decide +kernel, by decide +kernel⟩
abbrev s_parsed_strengths : Stmt := top 21
theorem sc_parsed_strengths : FnScope ["text", "modes", "_", "told", "pairs", "pair"] ["text"] (defScope s_parsed_strengths) := ⟨rfl, rfl, rfl, by decide +kernel, rfl, by decide +kernel, by decide +kernel⟩
abbrev s_law_cell : Stmt := top 23
theorem sc_law_cell : FnScope ["_law_script", "_law_k"] ["_law_script", "_law_k"] (defScope s_law_cell) := ⟨rfl, rfl, rfl, by decide +kernel, rfl, by decide +kernel, by decide +kernel⟩
abbrev s_law_box : Stmt := top 24
theorem sc_law_box : FnScope ["_law_cell_here"] ["_law_cell_here"] (defScope s_law_box) := ⟨rfl, rfl, rfl, by decide +kernel, rfl, by decide +kernel, by decide +kernel⟩
abbrev s_law_take : Stmt := top 25
theorem sc_law_take : FnScope ["_law_box_here", "_law_many", "_law_digit", "_law_number"] ["_law_box_here", "_law_many"] (defScope s_law_take) := ⟨rfl, rfl, rfl, by decide +kernel, rfl, by decide +kernel, by decide +kernel⟩
abbrev s_law_mixed : Stmt := top 26
theorem sc_law_mixed : FnScope ["_law_box_here", "_law_some", "_law_left", "_law_k"] ["_law_box_here", "_law_some"] (defScope s_law_mixed) := ⟨rfl, rfl, rfl, by decide +kernel, rfl, by decide +kernel, by decide +kernel⟩
abbrev s_law_names : Stmt := top 27
theorem sc_law_names : FnScope ["_law_box_here", "_law_many", "_law_letters", "_law_words", "_law_stem", "_law_first", "_law_step", "_law_way", "_law_found", "_law_k", "_law_sign", "_law_name"] ["_law_box_here", "_law_many"] (defScope s_law_names) := ⟨rfl, rfl, rfl, by decide +kernel, rfl, by decide +kernel, by decide +kernel⟩
abbrev s_law_modes : Stmt := top 28
theorem sc_law_modes : FnScope ["_law_box_here", "_law_most", "_law_modes_here", "_law_pairs_here", "_law_chance", "_law_one", "_law_other"] ["_law_box_here", "_law_most"] (defScope s_law_modes) := ⟨rfl, rfl, rfl, by decide +kernel, rfl, by decide +kernel, by decide +kernel⟩
abbrev s_law_against : Stmt := top 29
theorem sc_law_against : FnScope ["_law_model", "_law_mode", "_law_other"] ["_law_model", "_law_mode"] (defScope s_law_against) := ⟨rfl, rfl, rfl, by decide +kernel, rfl, by decide +kernel, by decide +kernel⟩
abbrev s_law_pairs : Stmt := top 30
theorem sc_law_pairs : FnScope ["_law_model", "_law_modes_here", "_law_found", "_law_k", "_law_other"] ["_law_model"] (defScope s_law_pairs) := ⟨rfl, rfl, rfl, by decide +kernel, rfl, by decide +kernel, by decide +kernel⟩
abbrev s_law_text : Stmt := top 31
theorem sc_law_text : FnScope ["_law_model", "_law_pairs_here", "_law_one", "_law_other"] ["_law_model"] (defScope s_law_text) := ⟨rfl, rfl, rfl, by decide +kernel, rfl, by decide +kernel, by decide +kernel⟩
abbrev s_law_is_name : Stmt := top 32
theorem sc_law_is_name : FnScope ["_law_value", "_law_sign"] ["_law_value"] (defScope s_law_is_name) := ⟨rfl, rfl, rfl, by decide +kernel, rfl, by decide +kernel, by decide +kernel⟩
abbrev s_law_read : Stmt := top 33
theorem sc_law_read : FnScope ["_law_text_here", "_law_halves", "_law_modes_here", "_law_names_here", "_law_pairs_here", "_law_word", "_law_parts", "_law_k"] ["_law_text_here"] (defScope s_law_read) := ⟨rfl, rfl, rfl, by decide +kernel, rfl, by decide +kernel, by decide +kernel⟩
abbrev s_law_told : Stmt := top 34
theorem sc_law_told : FnScope ["_law_value", "e"] ["_law_value"] (defScope s_law_told) := ⟨rfl, rfl, rfl, by decide +kernel, rfl, by decide +kernel, by decide +kernel⟩
abbrev s_law_bent : Stmt := top 35
theorem sc_law_bent : FnScope ["_law_box_here", "_law_text_here", "_law_at", "_law_more", "_law_head", "_law_tail"] ["_law_box_here", "_law_text_here"] (defScope s_law_bent) := ⟨rfl, rfl, rfl, by decide +kernel, rfl, by decide +kernel, by decide +kernel⟩
abbrev s_law : Stmt := top 36
theorem sc_law : FnScope ["_law_script", "_law_k", "_law_box_here", "_law_model", "_law_strengths", "_law_text_here", "_law_turn", "_law_bent_here", "_law_due", "_law_told_here", "_law_odd"] ["_law_script"] (defScope s_law) := ⟨rfl, rfl, rfl, by decide +kernel, rfl, by decide +kernel, by decide +kernel⟩

/-! ### further rules -/
section
variable {X : Cx}
theorem holdAll_ints {h : Heap} : ∀ {us : List Value} {ns : List Int}, Vals (ns.map V.int) us → PySem.W.HoldAll (α := Int) h us ns
  | _, [], .nil => ⟨_, .nil⟩
  | _, n :: r, .cons ⟨t, e⟩ k => by
    subst e
    obtain ⟨as, q⟩ := holdAll_ints (h := h) k
    exact ⟨_, .cons (.int n t) q⟩
theorem holds_int {h : Heap} {v : Value} {n : Int} (H : PySem.W.Holds (α := Int) h v n) : ∃ t, v = .int n t := by
  obtain ⟨as, r⟩ := H
  cases r
  exact ⟨_, rfl⟩
theorem maxOf_ints : ∀ (ys : List Int) (y : Int), PySem.W.maxOf y ys ∈ y :: ys ∧ ∀ n ∈ y :: ys, n ≤ PySem.W.maxOf y ys := by
  intro ys
  induction ys with
  | nil =>
    intro y
    exact ⟨List.mem_cons_self, fun n hn => by cases List.mem_singleton.mp hn; exact Int.le_refl _⟩
  | cons z r ih =>
    intro y
    have e : PySem.W.maxOf y (z :: r) = PySem.W.maxOf (if y < z then z else y) r := by
      show List.foldl _ (if decide (y < z) = true then z else y) r = _
      simp only [decide_eq_true_eq]
      rfl
    rw [e]
    obtain ⟨h1, h2⟩ := ih (if y < z then z else y)
    have hy := h2 _ List.mem_cons_self
    have hyz : y ≤ (if y < z then z else y) ∧ z ≤ (if y < z then z else y) := by
      split <;> omega
    refine ⟨?_, fun n hn => ?_⟩
    · rcases List.mem_cons.mp h1 with q | q
      · rw [q]
        split <;> simp
      · exact List.mem_cons_of_mem _ (List.mem_cons_of_mem _ q)
    · rcases List.mem_cons.mp hn with rfl | hn
      · omega
      · rcases List.mem_cons.mp hn with rfl | hn
        · omega
        · exact h2 n (List.mem_cons_of_mem _ hn)
theorem minOf_ints : ∀ (ys : List Int) (y : Int), PySem.W.minOf y ys ∈ y :: ys ∧ ∀ n ∈ y :: ys, PySem.W.minOf y ys ≤ n := by
  intro ys
  induction ys with
  | nil =>
    intro y
    exact ⟨List.mem_cons_self, fun n hn => by cases List.mem_singleton.mp hn; exact Int.le_refl _⟩
  | cons z r ih =>
    intro y
    have e : PySem.W.minOf y (z :: r) = PySem.W.minOf (if z < y then z else y) r := by
      show List.foldl _ (if decide (z < y) = true then z else y) r = _
      simp only [decide_eq_true_eq]
      rfl
    rw [e]
    obtain ⟨h1, h2⟩ := ih (if z < y then z else y)
    have hy := h2 _ List.mem_cons_self
    have hyz : (if z < y then z else y) ≤ y ∧ (if z < y then z else y) ≤ z := by
      split <;> omega
    refine ⟨?_, fun n hn => ?_⟩
    · rcases List.mem_cons.mp h1 with q | q
      · rw [q]
        split <;> simp
      · exact List.mem_cons_of_mem _ (List.mem_cons_of_mem _ q)
    · rcases List.mem_cons.mp hn with rfl | hn
      · omega
      · rcases List.mem_cons.mp hn with rfl | hn
        · omega
        · exact h2 n (List.mem_cons_of_mem _ hn)
/-- max(xs, default=d), xs a list of whole numbers -/
def rMaxD (K : PySem.W.Frag) : List V → List V → Hp → VK → Prop := fun xs zs H Q => ∃ (a : Addr) (ns : List Int) (d : V), xs = [.ref a] ∧ zs = [d] ∧ SqL K H a (ns.map V.int) ∧ (ns = [] → Q d H) ∧ ∀ m, m ∈ ns → (∀ n ∈ ns, n ≤ m) → Q (.int m) H
def rMinD (K : PySem.W.Frag) : List V → List V → Hp → VK → Prop := fun xs zs H Q => ∃ (a : Addr) (ns : List Int) (d : V), xs = [.ref a] ∧ zs = [d] ∧ SqL K H a (ns.map V.int) ∧ (ns = [] → Q d H) ∧ ∀ m, m ∈ ns → (∀ n ∈ ns, m ≤ n) → Q (.int m) H
theorem cr_maxD (hc : X.calm = true) (hu : X.A.units + 64 < cLine) : CallRK X (.builtin "max") ["default"] (rMaxD X.K) := by
  intro pins s σ H xs zs us ws Q I rx rz h
  obtain ⟨a, ns, d, rfl, rfl, hS, h0, h1⟩ := h
  obtain ⟨its, rv, pl, _⟩ := I.list hS
  obtain ⟨u, rfl, ru⟩ := vals1 rx
  obtain ⟨dv, rfl, rd⟩ := vals1 rz
  cases ru
  refine PySem.W.max_list_datum_default (α := Int) (xs := ns) (I.ok.hd hc) pl.isList (holdAll_ints (by simpa using rv)) (by show X.A.units + 1 + 0 < cLine; omega) (fun e h' tk k => ⟨d, H, I.kept k, rd, h0 e⟩) fun y ys i v h' tk e hi hh k => ?_
  subst e
  obtain ⟨t, rfl⟩ := holds_int hh
  have m := maxOf_ints ys y
  exact ⟨.int _, H, I.kept k, ⟨t, rfl⟩, h1 _ m.1 m.2⟩
theorem cr_minD (hc : X.calm = true) (hu : X.A.units + 64 < cLine) : CallRK X (.builtin "min") ["default"] (rMinD X.K) := by
  intro pins s σ H xs zs us ws Q I rx rz h
  obtain ⟨a, ns, d, rfl, rfl, hS, h0, h1⟩ := h
  obtain ⟨its, rv, pl, _⟩ := I.list hS
  obtain ⟨u, rfl, ru⟩ := vals1 rx
  obtain ⟨dv, rfl, rd⟩ := vals1 rz
  cases ru
  refine PySem.W.min_list_datum_default (α := Int) (xs := ns) (I.ok.hd hc) pl.isList (holdAll_ints (by simpa using rv)) (by show X.A.units + 1 + 0 < cLine; omega) (fun e h' tk k => ⟨d, H, I.kept k, rd, h0 e⟩) fun y ys i v h' tk e hi hh k => ?_
  subst e
  obtain ⟨t, rfl⟩ := holds_int hh
  have m := minOf_ints ys y
  exact ⟨.int _, H, I.kept k, ⟨t, rfl⟩, h1 _ m.1 m.2⟩
/-- what is surely the same: a flat value, or one object -/
def sureV (v : V) : Bool := flatB v || (match v with | .ref _ => true | _ => false)
theorem sure_eq {A : Around} {s : Shared} {v : V} {u u' : Value} (r : RelV v u) (r' : RelV v u') (f : sureV v = true) : SeqAt.EqAt A s u u' true := by
  cases v with
  | ref a =>
    cases (show u = Value.ref a from r)
    cases (show u' = Value.ref a from r')
    exact SeqAt.EqAt.same _
  | ty n => cases f
  | flt b => cases f
  | _ => exact eqAt_same r r' rfl
/-- two lists of the same items: they are not unlike -/
def rNeS (K : PySem.W.Frag) : R2 := fun x y H Q => ∃ (a b : Addr) (xs : List V), x = .ref a ∧ y = .ref b ∧ SqL K H a xs ∧ SqL K H b xs ∧ xs.all sureV = true ∧ Q (.bl false) H
theorem op_neS (hu : X.A.units + 64 < cLine) : OpR X (compareOp .NotEq) (rNeS X.K) := by
  intro pins s σ H x y v u Q I rx ry h
  obtain ⟨a, b, xs, rfl, rfl, ha, hb, hf, q⟩ := h
  cases (show v = Value.ref a from rx)
  cases (show u = Value.ref b from ry)
  obtain ⟨us, r1, p1, _⟩ := I.list ha
  obtain ⟨ws, r2, p2, _⟩ := I.list hb
  have hl : us.toArray.size = ws.toArray.size := by
    rw [List.size_toArray, List.size_toArray, ← r1.length, ← r2.length]
  refine SeqAt.RcNeAt.lists (e := fun _ => true) p1.isList p2.isList hl (by omega) (fun j h1 h2 => ?_) X.prog X.w _ _ ?_
  · have hj : j < xs.length := by
      rw [r1.length]
      simpa using h1
    obtain ⟨u1, e1, q1⟩ := r1.get (List.getElem?_eq_getElem hj)
    obtain ⟨u2, e2, q2⟩ := r2.get (List.getElem?_eq_getElem hj)
    have k1 : us.toArray[j] = u1 := by
      have := List.getElem?_eq_some_iff.mp e1
      simpa using this.2
    have k2 : ws.toArray[j] = u2 := by
      have := List.getElem?_eq_some_iff.mp e2
      simpa using this.2
    rw [k1, k2]
    exact sure_eq q1 q2 (List.all_eq_true.mp hf _ (List.getElem_mem hj))
  · have ea : ((List.range us.toArray.size).all fun _ => true) = true := List.all_eq_true.mpr fun _ _ => rfl
    rw [ea]
    exact ⟨.bl false, H, I, rfl, q⟩
end
/-! ### try with several clauses, each of which names the exception: slot i is the name's -/
/-- what the clauses wish of an exception of the body, one after the other -/
def wManyAs (K : PySem.W.Frag) (i : Nat) (Wout : WX) (D : Ends) : List (Value × (Addr → Value → Option Addr → TS)) → WX
  | [] => Wout
  | (c, ts) :: r => wAs K c i ts (wManyAs K i Wout D r) D
inductive HdsAs (X : Cx) (n : Str) : List ExceptHandler → List (Value × (Addr → Value → Option Addr → TS)) → Prop
  | nil : HdsAs X n [] []
  | cons {x : Str} {c : Value} {ts : Addr → Value → Option Addr → TS} {st : Stmt} {sts : List Stmt} {p1 p2 : Pos} {hs : List ExceptHandler} {l : List (Value × (Addr → Value → Option Addr → TS))} (hc : Names X x c)
      (hb : ∀ (a : Addr) (o : Obj) (cls : Value) (d : Option Addr) (pn : List (Addr × Obj)), Zc cls d o → (∃ vs, o.data = .fields vs) → PSs (X.suite a ((a, o) :: pn)) (st :: sts) (ts a cls d)) (r : HdsAs X n hs l) :
      HdsAs X n (.ExceptHandler (some (.Name x p1)) (some n) (st :: sts) p2 :: hs) ((c, ts) :: l)
section
variable {X : Cx} {n : Str} {i : Nat} {pos : Pos} {tb : WX → TS} {Wout : WX} {body : List Stmt}
theorem ps_try_manyAs {g₀ : ExceptHandler} {gs : List ExceptHandler} {l : List (Value × (Addr → Value → Option Addr → TS))} (stk : X.stack = X.env :: X.outer) (frm : X.env.frame = some X.env.locals) (nodup : X.N.Nodup) (at_i : X.N[i]? = some n) (lcl : X.env.kindOf n = some .local)
    (out : Takes X Wout) (hbody : ∀ (W : WX) (pn : List (Addr × Obj)) (xe : Value → Shared → Prop), Takes (X.tr pn xe) W → PassesOwn (model X.prog X.w) X.A X.env xe → PSs (X.tr pn xe) body (tb W)) (hands : HdsAs X n (g₀ :: gs) l) :
    PS X (.Try body (g₀ :: gs) [] [] pos) (fun D σ H => tb (wManyAs X.K i Wout D l) D σ H) := by
  constructor
  intro pins s σ H D I hw
  have fr2 : X.A.frames = some (X.env :: X.outer) := by
    rw [I.ok.frames, stk]
  apply wpAny_Try_except
  let xe' : Value → Shared → Prop := fun e s₁ => wpAny (model X.prog X.w) X.A (noteFrame e X.env)
    (fun _ s₂ => wpAny (model X.prog X.w) X.A (setFlight e none) (fun _ s₃ => wpAny (model X.prog X.w) X.A (handleBy e X.env (g₀ :: gs)) (SP X pins D) X.xe s₃) X.xe s₂) X.xe s₁
  have caught : Takes (X.tr (X.pn ++ pins) xe') (wManyAs X.K i Wout D l) := by
    rintro u s' ⟨a, B, sI, pins', σ', H', cls, d, rfl, J1, nb, up, sky, na, os, ag, wish⟩
    have J := J1.ofTry I.ok
    have sky2 : Sky B (X.env :: X.outer) a (Zc cls d) X.env.locals s'.heap := by
      rw [← stk]
      exact sky
    show wpAny _ X.A (noteFrame (.ref a) X.env) _ _ _
    apply Sky.land Zc.steady fr2 frm sky2
    intro hA fly upA
    have JA : Inv X pins σ' H' { s' with heap := hA } := J.landed nb fly.1 (up.trans upA) os ag
    obtain ⟨oA, wA, getA, zA, dataA⟩ := fly.there
    have off : a ∉ frs (X.env :: X.outer) := by
      intro hm
      obtain ⟨_, o2, get2, nodata⟩ := fly.2.2.1.mem hm
      have same := get2.symm.trans getA
      cases same
      exact nodata _ dataA
    have offL : a ≠ X.env.locals := by
      intro z
      refine off (List.mem_filterMap.mpr ⟨X.env, List.mem_cons_self, ?_⟩)
      rw [frm, z]
    have offF : a ∉ X.fs := by
      intro hm
      obtain ⟨e, he, q⟩ := List.mem_filterMap.mp hm
      exact off (List.mem_filterMap.mpr ⟨e, List.mem_cons_of_mem _ he, q⟩)
    have SA := JA.suite getA dataA na offL offF
    suffices go : ∀ {hs : List ExceptHandler} {l' : List (Value × (Addr → Value → Option Addr → TS))}, HdsAs X n hs l' → wManyAs X.K i Wout D l' cls d σ' H' →
        wpAny (model X.prog X.w) X.A (handleBy (.ref a) X.env hs) (SP X pins D) X.xe { s' with heap := hA } from go hands wish
    intro hs l' hk
    induction hk with
    | nil =>
      intro wi
      apply wpAny_handleBy_nil
      obtain ⟨_, _, _, o5, w5, T5, oT5, t5, g5, z5, d5, e5, r5⟩ := id fly
      unfold PySem.passOn
      apply wpAny_bind
      refine wpAny_field g5 d5 e5 ?_
      rw [if_neg (show ¬ ((Value.ref T5 == Value.none) = true) by simp)]
      have leave : wpAny (model X.prog X.w) X.A (setFlight (.ref a) X.env.frame) (fun _ s4 => wpAny (model X.prog X.w) X.A (throw (.ref a) : Sem Flow) (SP X pins D) X.xe s4) X.xe { s' with heap := hA } := by
        rw [frm]
        refine HandSPX.setFlight_upZ fly fun hB heldB upB => ?_
        apply wpAny_throw
        exact out _ _ ⟨a, B, sI, pins, σ', H', cls, d, rfl, J, nb, (up.trans upA).trans upB, .inr (.inr (by rw [stk]; exact heldB)), na, os, ag, wi⟩
      first
        | exact wpAny_bind leave
        | exact wpAny_bind (wpAny_pure (wpAny_bind leave))
    | @cons x c ts st sts p1 p2 hs2 l2 hc hb r ih =>
      rintro ⟨b, isb, yes, no⟩
      refine wpAny_handleBy_cons (codeAny_handlers_test ?_) (by intro q; cases q)
      have lookT : PySem.W.Looks (model X.prog X.w) hA (typeOf (.ref a)) cls := by
        intro A' Q E s2 k q
        exact wpAny_typeOf_ref (k _ _ getA) (by rw [zA.1]; exact q)
      have lookM := PySem.W.exm_one (M := model X.prog X.w) JA.kIn lookT isb
      have named : ∀ {Q E : Value → Shared → Prop}, Q c { s' with heap := hA } → wpAny (model X.prog X.w) (X.A.mark (some (.ref a))) (eval (.Name x p1) X.env) Q E { s' with heap := hA } := by
        intro Q E q
        obtain ⟨gl, nd, hm⟩ := hc
        rcases hm with hm | ⟨hm, bv, nn⟩
        · exact ld_glob (X := X.suite a ((a, oA) :: (X.pn ++ pins))) SA gl hm q nd
        · exact ld_blt (X := X.suite a ((a, oA) :: (X.pn ++ pins))) SA gl hm bv q nn nd
      apply named
      apply lookM.here
      cases b with
      | false =>
        show wpAny _ X.A (handleBy (.ref a) X.env hs2) _ _ _
        exact ih (no rfl)
      | true =>
        apply codeAny_handlers_suite_as
        refine HandSPX.lands_againZ fly fun hC flyC upC => ?_
        have JC : Inv X pins σ' H' { s' with heap := hC } := J.landed nb flyC.1 ((up.trans upA).trans upC) os ag
        obtain ⟨oC, wC, getC, zC, dataC⟩ := flyC.there
        have SC := JC.suite getC dataC na offL offF
        refine store_ok (X := X.suite a ((a, oC) :: (X.pn ++ pins))) (v := .ref a) SC nodup at_i (.inl lcl) rfl (fun s5 S5 => ?_) (.inr lcl)
        refine wpAny_mono ((hb a oC cls d (X.pn ++ pins) zC ⟨_, dataC⟩).run [] s5 _ H' _ S5 (yes rfl a na)) (fun fl s6 hq => ?_) (fun _ _ z => z.elim)
        have fin : ∀ {σ6 : L2.St} {H6 : Hp} {Q : Shared → Prop}, Inv (X.suite a ((a, oC) :: (X.pn ++ pins))) [] σ6 H6 s6 → (∀ s7, Inv X pins (σ6.set i none) H6 s7 → Q s7) →
            wpAny (model X.prog X.w) X.A (do bindName X.env n .none; unbindBehindTheSuite X.env n p2) (fun _ s7 => Q s7) X.xe s6 := by
          intro σ6 H6 Q S6 q
          exact gone_ok (S6.unsuite I.ok) nodup at_i lcl q
        cases fl with
        | ret u =>
          obtain ⟨v6, σ6, H6, S6, r6, q6⟩ := hq
          exact fin S6 fun s7 J7 => ⟨_, _, _, J7, r6, q6⟩
        | next =>
          obtain ⟨σ6, H6, S6, q6⟩ := hq
          exact fin S6 fun s7 J7 => ⟨_, _, J7, q6⟩
        | brk =>
          obtain ⟨σ6, H6, S6, q6⟩ := hq
          exact fin S6 fun s7 J7 => ⟨_, _, J7, q6⟩
        | cont =>
          obtain ⟨σ6, H6, S6, q6⟩ := hq
          exact fin S6 fun s7 J7 => ⟨_, _, J7, q6⟩
  refine wpAny_mono ((hbody _ (X.pn ++ pins) xe' caught PassesOwn.looking).run [] s σ H D (I.toTry _) hw) (fun fl s1 hq => ?_) (fun _ _ he => he)
  cases fl with
  | ret u =>
    obtain ⟨v, σ', H', J', r', q⟩ := hq
    exact ⟨v, σ', H', J'.ofTry I.ok, r', q⟩
  | next =>
    obtain ⟨σ', H', J', q⟩ := hq
    exact wpAny_execs_nil ⟨σ', H', J'.ofTry I.ok, q⟩
  | brk =>
    obtain ⟨σ', H', J', q⟩ := hq
    exact ⟨σ', H', J'.ofTry I.ok, q⟩
  | cont =>
    obtain ⟨σ', H', J', q⟩ := hq
    exact ⟨σ', H', J'.ofTry I.ok, q⟩
end
/-! ### a def called with keywords (and perhaps positional values ahead), what leaves it wished for at the caller's slots -/
/-- what such a call binds, the parameters' order by a permutation of the values -/
structure KwB (K : PySem.W.Frag) (fd : FuncData) (ps : List Str) (n : Nat) (ks : List Str) (g : {α : Type} → List α → List α → List α) : Prop where
  to : ∀ (us ws : List Value), us.length = n → ws.length = ks.length → bindArgs fd ⟨us, ks.zip ws⟩ = pure (ps.zip (g us ws))
  rel : ∀ {vs : List V} {us : List Value} {zs : List V} {ws : List Value}, vs.length = n → zs.length = ks.length → Vals vs us → Vals zs ws → Vals (g vs zs) (g us ws)
def tCallKw (n m : Nat) (sp : Sp) (g : List V → List V → List V) (E : L2.St → XK) (t tk : TA) : TE := fun σ H Q => t σ H fun vs H1 => tk σ H1 fun zs H2 => vs.length = n ∧ zs.length = m ∧ sp (g vs zs) H2 Q (E σ)
section
variable {X : Cx} {CX : CXT} {k n : Nat} {f : Addr} {fd : FuncData} {ps ks : List Str} {sp : Sp} {E : L2.St → XK} {x : Str} {p pos : Pos} {e : Expr} {es : List Expr} {kws : List Keyword} {t tk : TA} {g : {α : Type} → List α → List α → List α}
theorem run_kw {pins : List (Addr × Obj)} {σ : L2.St} {H : Hp} {s : Shared} {Q : VK} {us ws : List Value} {vs zs : List V} (F : FnOk X.prog X.w X.K X.mg X.base CX k f fd ps sp) (room : Room k X.A) (bnd : KwB X.K fd ps n ks g) (px : PassesAt CX X σ (E σ))
    (I : Inv X pins σ H s) (rv : Vals vs us) (rz : Vals zs ws) (l1 : vs.length = n) (l2 : zs.length = ks.length) (hsp : sp (g vs zs) H Q (E σ)) : wpAny (model X.prog X.w) X.A (call (.ref f) us (ks.zip ws)) (EP X pins σ Q) X.xe s := by
  apply wpAny_call
  refine codeAny_mono (F.run X.A X.stack s H ⟨us, ks.zip ws⟩ (g us ws) (g vs zs) Q (E σ) room I.env0 (.of_eq (bnd.to us ws (rv.length.symm.trans l1) (rz.length.symm.trans l2))) (bnd.rel l1 l2 rv rz) hsp) fun r s' got => ?_
  match r, got with
  | .error er, got => exact px pins H s er s' I got
  | .ok (.ret u), got => exact I.after got
  | .ok .next, got => exact got.elim
  | .ok .brk, got => exact got.elim
  | .ok .cont, got => exact got.elim
/-- f(k = v, ..) -/
theorem pe_kw0 (F : FnOk X.prog X.w X.K X.mg X.base CX k f fd ps sp) (room : Room k X.A) (gl : Gl X x) (m : X.mg x = some (.ref f)) (kp : PySem.W.keepIn X.K (.ref f) = true) (bnd : KwB X.K fd ps 0 ks g) (px : ∀ σ, PassesAt CX X σ (E σ)) (kw : PK X kws tk)
    (h1 : (backToKw pos (keywordEach kws X.env)).all (·.1.isSome) = true := by rfl) (h2 : (backToKw pos (keywordEach kws X.env)).filterMap (·.1) = ks := by rfl) (h3 : (x == ("__debug__" : Str)) = false := by decide)
    (h4 : ((backTo pos (starEach [] X.env)).any (·.1) || (backToKw pos (keywordEach kws X.env)).any (·.1.isNone)) = false := by rfl) : PE X (.Call (.Name x p) [] kws pos) (tCallKw 0 ks.length sp g E tNil tk) := by
  constructor
  intro pins s σ H Q I h
  apply wpAny_Call_Name_kw
  refine ld_glob I gl m ?_ h3
  refine PySem.W.callWith_KW0 (h₀ := X.base) I.ok.mod.kin kp h1 ?_ h4
  refine thn (kw.run pos pins s σ H _ I h) fun ws s2 got => ?_
  obtain ⟨zs, H2, I2, rz, l1, l2, q2⟩ := got
  rw [h2]
  exact ⟨I2.kIn, run_kw (us := []) (vs := []) F room bnd (px σ) I2 .nil rz rfl l2 q2⟩
/-- f(e, .., k = v, ..) -/
theorem pe_kw (F : FnOk X.prog X.w X.K X.mg X.base CX k f fd ps sp) (room : Room k X.A) (gl : Gl X x) (m : X.mg x = some (.ref f)) (kp : PySem.W.keepIn X.K (.ref f) = true) (bnd : KwB X.K fd ps n ks g) (px : ∀ σ, PassesAt CX X σ (E σ)) (ha : PA X (e :: es) t) (kw : PK X kws tk)
    (h1 : (backToKw pos (keywordEach kws X.env)).all (·.1.isSome) = true := by rfl) (h2 : (backToKw pos (keywordEach kws X.env)).filterMap (·.1) = ks := by rfl) (h3 : (x == ("__debug__" : Str)) = false := by decide)
    (h5 : starEach (e :: es) X.env = (false, eval e X.env) :: starEach es X.env := by rfl) (h4 : ((backTo pos (starEach (e :: es) X.env)).any (·.1) || (backToKw pos (keywordEach kws X.env)).any (·.1.isNone)) = false := by rfl) :
    PE X (.Call (.Name x p) (e :: es) kws pos) (tCallKw n ks.length sp g E t tk) := by
  constructor
  intro pins s σ H Q I h
  apply wpAny_Call_Name_kw
  refine ld_glob I gl m ?_ h3
  refine PySem.W.callWith_KW (h₀ := X.base) I.ok.mod.kin kp h1 (thn (ha.run pos pins s σ H _ I h) fun us s1 got => ?_) h4 h5
  obtain ⟨vs, H1, I1, rv, q⟩ := got
  refine thn (kw.run pos pins s1 σ H1 _ I1 q) fun ws s2 got => ?_
  obtain ⟨zs, H2, I2, rz, l1, l2, q2⟩ := got
  rw [h2]
  exact ⟨I2.kIn, run_kw F room bnd (px σ) I2 rv rz l1 l2 q2⟩
theorem passAt_of {X : Cx} {CX : CXT} {E : XK} (h : Passes CX X E) (σ : L2.St) : PassesAt CX X σ E := fun pins H s e s' I c => h pins σ H s e s' I c
/-- in a def that lets exceptions out: what a callee lets out goes on -/
theorem passC {X : Cx} {E : XK} (tk : Takes X (fun cls d _ H => E cls d H)) : Passes (L2.CX X.prog X.w) X E := passes_call tk fun _ _ _ _ h => h
end
/-- the drawing box at p: three ints, drawn n times at most -/
def BoxAt (H : Hp) (p : Addr) (n : Nat) : Prop := ∃ d s c : Int, H p = some (.lst [.int d, .int s, .int c]) ∧ 0 ≤ d ∧ 0 ≤ s ∧ s < 2147483629 ∧ 0 ≤ c ∧ c ≤ n
/-- H0: all that is known beside the box -/
structure BoxIn (H0 H : Hp) (p : Addr) (n : Nat) : Prop where
  same : Same H0 H
  free : H0 p = none
  box : BoxAt H p n
theorem BoxAt.mono {H : Hp} {p : Addr} {n m : Nat} (b : BoxAt H p n) (h : n ≤ m) : BoxAt H p m := by
  obtain ⟨d, s, c, h1, h2, h3, h4, h5, h6⟩ := b
  exact ⟨d, s, c, h1, h2, h3, h4, h5, by omega⟩
theorem BoxIn.mono {H0 H : Hp} {p : Addr} {n m : Nat} (b : BoxIn H0 H p n) (h : n ≤ m) : BoxIn H0 H p m := ⟨b.same, b.free, b.box.mono h⟩
/-- a pure step behind it -/
theorem BoxIn.keep {H0 H H' : Hp} {p : Addr} {n : Nat} (b : BoxIn H0 H p n) (s : Same H H') : BoxIn H0 H' p n := by
  obtain ⟨d, s', c, h1, h⟩ := b.box
  exact ⟨b.same.trans s, b.free, d, s', c, s _ _ h1, h⟩
/-- a new object becomes known -/
theorem BoxIn.new {H0 H : Hp} {p q : Addr} {n : Nat} {o : HO} (b : BoxIn H0 H p n) (hq : H q = none) : BoxIn (upd H0 q o) (upd H q o) p n ∧ Same H0 (upd H0 q o) := by
  obtain ⟨d, s', c, h1, h⟩ := b.box
  have npq : p ≠ q := ne_of_none h1 hq
  refine ⟨⟨fun x u e => ?_, by rw [upd_ne npq]; exact b.free, d, s', c, by rw [upd_ne npq]; exact h1, h⟩, fun x u e => ?_⟩
  · by_cases hx : x = q
    · subst hx
      rw [upd_same] at e ⊢
      exact e
    · rw [upd_ne hx] at e ⊢
      exact b.same _ _ e
  · rw [upd_ne (ne_of_none e (b.same.free hq))]
    exact e
/-- all that is tracked now, the box aside, is known -/
def but (H : Hp) (p : Addr) : Hp := fun q => if q = p then none else H q
theorem but_same {H : Hp} {p : Addr} : but H p p = none := by unfold but; rw [if_pos rfl]
theorem but_ne {H : Hp} {p q : Addr} (h : q ≠ p) : but H p q = H q := by unfold but; rw [if_neg h]
theorem BoxIn.all {H0 H : Hp} {p : Addr} {n : Nat} (b : BoxIn H0 H p n) : BoxIn (but H p) H p n ∧ Same H0 (but H p) := by
  refine ⟨⟨fun x u e => ?_, but_same, b.box⟩, fun x u e => ?_⟩
  · by_cases hx : x = p
    · subst hx
      rw [but_same] at e
      cases e
    · rw [but_ne hx] at e
      exact e
  · have hx : x ≠ p := fun q => by
      rw [q, b.free] at e
      cases e
    rw [but_ne hx]
    exact b.same _ _ e

def sp_law_cell (K : PySem.W.Frag) : Sp := fun vs H Q _ => ∃ (a : Addr) (ns : List Int) (k : Int), vs = [.ref a, .int k] ∧ SqL K H a (ns.map V.int) ∧ 0 ≤ k ∧ ∀ z, Q (.int z) H
def sp_law_box : Sp := fun vs H Q _ => ∃ z : Int, vs = [.int z] ∧ ∀ p o, H p = none → BoxAt (upd H p o) p 0 → Q (.ref p) (upd H p o)
def sp_law_take : Sp := fun vs H Q _ => ∃ (H0 : Hp) (p : Addr) (n : Nat) (m : Int), vs = [.ref p, .int m] ∧ BoxIn H0 H p n ∧ n < 1000000 ∧ 0 < m ∧ m < 1000000 ∧
  ∀ (z : Int) (H' : Hp), 0 ≤ z → z < m → BoxIn H0 H' p (n + 1) → Q (.int z) H'
/-- what the law's promise is: a list of at most 63 ints is handed in, True comes out -/
def sp_law (K : PySem.W.Frag) : Sp := fun vs H Q _ => ∃ (a : Addr) (ns : List Int), vs = [.ref a] ∧ SqL K H a (ns.map V.int) ∧ ns.length ≤ 63 ∧ ∀ H', Q (.bl true) H'
/-! ### values as data -/
theorem same_t {K : PySem.W.Frag} {H H' : Hp} {a : Addr} {xs : List V} (e : Same H H') (h : SqT K H a xs) : SqT K H' a xs := by
  rcases h with (h | ⟨o, h⟩) | h
  · exact .inl (.inl (e _ _ h))
  · exact .inl (.inr ⟨o, e _ _ h⟩)
  · exact .inr h
mutual
theorem dp_mono {K : PySem.W.Frag} {H H' : Hp} (e : Same H H') : ∀ {v : V} {d : PyData}, Dp K H v d → Dp K H' v d
  | _, _, .non => .non
  | _, _, .bl b => .bl b
  | _, _, .int i => .int i
  | _, _, .str x => .str x
  | _, _, .lst h a => .lst (e.seq h) (dpAll_mono e a)
  | _, _, .tup h a => .tup (same_t e h) (dpAll_mono e a)
theorem dpAll_mono {K : PySem.W.Frag} {H H' : Hp} (e : Same H H') : ∀ {vs : List V} {ds : List PyData}, DpAll K H vs ds → DpAll K H' vs ds
  | _, _, .nil => .nil
  | _, _, .cons a b => .cons (dp_mono e a) (dpAll_mono e b)
end
theorem dpAll_get {K : PySem.W.Frag} {H : Hp} : ∀ {vs : List V} {ds : List PyData} {i : Nat} {v : V}, DpAll K H vs ds → vs[i]? = some v → ∃ d, ds[i]? = some d ∧ Dp K H v d
  | _, _, 0, _, .cons a _, h => ⟨_, rfl, by cases h; exact a⟩
  | _, _, i + 1, _, .cons _ b, h => dpAll_get (i := i) b h
theorem dpAll_len {K : PySem.W.Frag} {H : Hp} : ∀ {vs : List V} {ds : List PyData}, DpAll K H vs ds → vs.length = ds.length
  | _, _, .nil => rfl
  | _, _, .cons _ b => congrArg (· + 1) (dpAll_len b)
theorem dpAll_strs {K : PySem.W.Frag} {H : Hp} : ∀ ss : List Str, DpAll K H (ss.map V.str) (ss.map PyData.str)
  | [] => .nil
  | s :: r => .cons (.str s) (dpAll_strs r)
theorem dpAll_bls {K : PySem.W.Frag} {H : Hp} : ∀ bs : List Bool, DpAll K H (bs.map V.bl) (bs.map PyData.bool)
  | [] => .nil
  | b :: r => .cons (.bl b) (dpAll_bls r)
theorem eqv_nil (ds : List PyData) : PyData.eqv (.list ds) (.list []) = ds.isEmpty := by
  cases ds with
  | nil => simp [PyData.eqv, PyData.eqvAll]
  | cons d r => simp [PyData.eqv, PyData.eqvAll]
theorem shaped_nil : SeqAt.shaped (.list []) = true := by decide +kernel
theorem canAll_mem {ds : List PyData} : PyData.canLayAll0 ds = true ↔ ∀ d ∈ ds, d.canLay0 = true := by
  induction ds with
  | nil => simp [PyData.canLayAll0]
  | cons d r ih => simp [PyData.canLayAll0, ih]
theorem depthAll_le {ds : List PyData} {n : Nat} (h : ∀ d ∈ ds, d.depth ≤ n) : PyData.depthAll ds ≤ n := by
  induction ds with
  | nil => simp [PyData.depthAll]
  | cons d r ih =>
    have h1 := h d (List.mem_cons_self)
    have h2 := ih fun x hx => h x (List.mem_cons_of_mem _ hx)
    simp only [PyData.depthAll]
    omega
theorem depthAll_mem {ds : List PyData} {d : PyData} (h : d ∈ ds) : d.depth ≤ PyData.depthAll ds := by
  induction ds with
  | nil => cases h
  | cons e r ih =>
    simp only [PyData.depthAll]
    rcases List.mem_cons.mp h with rfl | h
    · omega
    · have := ih h
      omega
theorem shaped_iff {d : PyData} : SeqAt.shaped d = true ↔ d.canLay0 = true ∧ d.depth ≤ 64 := by
  unfold SeqAt.shaped
  rw [Bool.and_eq_true, decide_eq_true_iff]
/-- a list of data that are d deep at most -/
theorem shaped_list {ds : List PyData} {n : Nat} (hn : n < 64) (h : ∀ d ∈ ds, d.canLay0 = true ∧ d.depth ≤ n) : SeqAt.shaped (.list ds) = true := by
  refine shaped_iff.mpr ⟨?_, ?_⟩
  · simp only [PyData.canLay0]
    exact canAll_mem.mpr fun d hd => (h d hd).1
  · have := depthAll_le fun d hd => (h d hd).2
    simp only [PyData.depth]
    omega
theorem shaped_of_tuple {ds : List PyData} (h : SeqAt.shaped (.tuple ds) = true) {d : PyData} (hd : d ∈ ds) : d.canLay0 = true ∧ d.depth ≤ 63 := by
  obtain ⟨h1, h2⟩ := shaped_iff.mp h
  simp only [PyData.canLay0] at h1
  simp only [PyData.depth] at h2
  have := depthAll_mem hd
  exact ⟨canAll_mem.mp h1 d hd, by omega⟩
/-- a value and what it is: data of any depth, or a dict (none) -/
inductive VD (K : PySem.W.Frag) (H : Hp) : V → Option PyData → Prop where
  | dat {v : V} {d : PyData} : Dp K H v d → SeqAt.shaped d = true → (∀ s, d = .str s → s.length ≤ 1000) → VD K H v (some d)
  | dic {a : Addr} {kvs : List (Key × V)} : H a = some (.dK kvs) → VD K H (.ref a) none
theorem VD.mono {K : PySem.W.Frag} {H H' : Hp} (e : Same H H') {v : V} {o : Option PyData} (h : VD K H v o) : VD K H' v o := by
  cases h with
  | dat a b c => exact .dat (dp_mono e a) b c
  | dic a => exact .dic (e _ _ a)
def tyD : PyData → String
  | .none => "NoneType" | .bool _ => "bool" | .int _ => "int" | .str _ => "str" | .list _ => "list" | .tuple _ => "tuple" | .dict _ => "dict"
def tyO : Option PyData → String
  | none => "dict"
  | some d => tyD d
theorem dp_ty {K : PySem.W.Frag} {H : Hp} {v : V} {d : PyData} (h : Dp K H v d) : TyX K H v (.type (tyD d)) := by
  cases h with
  | non => exact .base .non
  | bl b => exact .base (.bl b)
  | int i => exact .base (.int i)
  | str x => exact .base (.str x)
  | lst h _ =>
    rcases h with (h | ⟨o, h⟩) | ⟨o, its, n, h, c, _⟩
    · exact .base (.lst h)
    · exact .base (.frz h)
    · exact .kList h c
  | tup h _ =>
    rcases h with (h | ⟨o, h⟩) | ⟨o, its, n, h, c, _⟩
    · exact .base (.tup h)
    · exact .fTuple h
    · exact .kTuple h c
theorem VD.ty {K : PySem.W.Frag} {H : Hp} {v : V} {o : Option PyData} (h : VD K H v o) : TyX K H v (.type (tyO o)) := by
  cases h with
  | dat a _ _ => exact dp_ty a
  | dic a => exact .base (.dK a)
def isT (T : String) (o : Option PyData) : Bool := tyO o == T || (T == "int" && tyO o == "bool")
theorem tyO_mem (o : Option PyData) : tyO o = "NoneType" ∨ tyO o = "bool" ∨ tyO o = "int" ∨ tyO o = "str" ∨ tyO o = "list" ∨ tyO o = "tuple" ∨ tyO o = "dict" := by
  rcases o with _ | d
  · simp [tyO]
  · cases d <;> simp [tyO, tyD]
theorem kit_o {K : PySem.W.Frag} (o : Option PyData) {T : String} (hT : T = "int" ∨ T = "bool" ∨ T = "str" ∨ T = "tuple") : PySem.W.kitOne K (.type (tyO o)) (.type T) = some (isT T o) := by
  have h := tyO_mem o
  unfold isT
  generalize tyO o = nm at h ⊢
  rcases hT with rfl | rfl | rfl | rfl
  all_goals
    rcases h with rfl | rfl | rfl | rfl | rfl | rfl | rfl
    all_goals exact kit_ty (by decide +kernel)
def nonO : Option PyData → Bool
  | some .none => true
  | _ => false
theorem vd_non {K : PySem.W.Frag} {H : Hp} {v : V} {o : Option PyData} (h : VD K H v o) : decide (v = .non) = nonO o := by
  cases h with
  | dat a _ _ => cases a <;> rfl
  | dic a => rfl
theorem iteFe {c : Bool} {A B : Prop} (h : c = false) (q : B) : if c = true then A else B := by
  subst h
  exact iteF q
theorem iteTe {c : Bool} {A B : Prop} (h : c = true) (q : A) : if c = true then A else B := by
  subst h
  exact iteT q
theorem tyes {te : TE} {σ : L2.St} {H : Hp} {R : V → Hp → Prop} {S : Hp → Prop} (h : te σ H R) : tYes σ H (fun b H3 => if b = true then te σ H3 R else S H3) := by
  show (if true = true then te σ H R else S H)
  exact iteT h
/-! ### comprehensions that change nothing: acc i is what is made behind i turns -/
theorem lc_acc {J : It} {n : Nat} {G : Hp → Prop} {item : Nat → V → Prop} {g : TG} {tt : TT} {te : TE} {vs : List Nat} {σ : L2.St} {H1 : Hp} {D : Addr} {Qd : Hp → Prop} (w : Walk J n G (fun i H x H' => H' = H ∧ item i x)) (hD : H1 D = none) (hG : ∀ H, Same H1 H → G H) (acc : Nat → List V) (h0 : acc 0 = []) (hz : ∀ i, i < n → (acc i).length < sizeLine)
    (hs : ∀ (i : Nat) (x : V) (H : Hp), i < n → item i x → Same H1 H → ∀ (R : V → Hp → Prop) (S : Hp → Prop), (∀ y H4, acc (i + 1) = acc i ++ [y] → Same H H4 → R y H4) → (∀ H3, acc (i + 1) = acc i → Same H H3 → S H3) →
      g x (wipe σ vs) H fun σ2 H2 => wipe σ2 vs = wipe σ vs ∧ tt σ2 H2 fun b H3 => if b = true then te σ2 H3 R else S H3)
    (hd : ∀ H, Same H1 H → H D = some (.lst (acc n)) → Qd H) : ∃ W : Nat → Nat → Hp → Prop, (∃ m, W 0 m (upd H1 D (.lst []))) ∧ ∀ i m H, W i m H →
      (J.stop i H ∧ Qd H) ∨ (J.go i H ∧ ∃ Nx : Hp → Prop, (∀ H', Nx H' → ∃ m', m' < m ∧ W (i + 1) m' H') ∧ ∀ x H', J.yld i H x H' → g x (wipe σ vs) H' fun σ2 H2 => wipe σ2 vs = wipe σ vs ∧ tt σ2 H2 fun b H3 =>
        if b = true then te σ2 H3 fun y H4 => ∃ acc, H4 D = some (.lst acc) ∧ acc.length < sizeLine ∧ Nx (upd H4 D (.lst (acc ++ [y]))) else Nx H3) := by
  refine lc_it w (fun i H => Same H1 H ∧ H D = some (.lst (acc i))) ⟨fun b o e => ?_, ?_⟩ (fun i H _ p => hG H p.1) ?_ (fun H p => hd H p.1 p.2)
  · rw [upd_ne (ne_of_none e hD)]
    exact e
  · rw [upd_same, h0]
  · rintro i x H H' hi ⟨s1, hl⟩ ⟨rfl, hx⟩
    refine hs i x _ hi hx s1 _ _ (fun y H4 e s2 => ⟨acc i, s2 _ _ hl, hz i hi, ⟨fun b o eb => ?_, by rw [upd_same, e]⟩⟩) (fun H3 e s2 => ⟨s1.trans s2, by rw [e]; exact s2 _ _ hl⟩)
    rw [upd_ne (ne_of_none eb hD)]
    exact s2 _ _ (s1 _ _ eb)
/-! ### texts and their bounds -/
theorem same_new {H : Hp} {q : Addr} {o : HO} (h : H q = none) : Same H (upd H q o) := fun b u e => by
  rw [upd_ne (ne_of_none e h)]
  exact e
/-- at most n signs, all of them signs -/
def sOk (n : Nat) (s : Str) : Prop := s.length ≤ n ∧ PyData.strOk s = true
theorem strOk_iff {s : Str} : PyData.strOk s = true ↔ ∀ c ∈ s.cps.toList, c < 0x110000 := by
  unfold PyData.strOk
  rw [Array.all_eq_true']
  constructor
  · intro h c hc
    exact of_decide_eq_true (h c (by simpa using hc))
  · intro h c hc
    exact decide_eq_true (h c (by simpa using hc))
theorem sOk.mono {n m : Nat} {s : Str} (h : sOk n s) (e : n ≤ m) : sOk m s := ⟨Nat.le_trans h.1 e, h.2⟩
theorem sOk.app {n m : Nat} {a b : Str} (h : sOk n a) (k : sOk m b) : sOk (n + m) (a ++ b) := by
  refine ⟨?_, strOk_iff.mpr fun c hc => ?_⟩
  · rw [Str.length_append]
    exact Nat.add_le_add h.1 k.1
  · rw [Str.cps_append, Array.toList_append] at hc
    rcases List.mem_append.mp hc with q | q
    · exact strOk_iff.mp h.2 c q
    · exact strOk_iff.mp k.2 c q
theorem sOk.cut {n : Nat} {a : Str} (h : sOk n a) (lo hi : Option Int) : sOk n (cutS a lo hi) := by
  refine ⟨Nat.le_trans (cutS_length _ _ _) h.1, strOk_iff.mpr fun c hc => ?_⟩
  unfold cutS at hc
  have hc' : c ∈ a.cps.toList := List.mem_of_mem_drop (List.mem_of_mem_take (by simpa using hc))
  exact strOk_iff.mp h.2 c hc'
theorem joinL_nil : ∀ ps : List (List Nat), TL.joinL [] ps = ps.flatten
  | [] => rfl
  | [p] => by simp [TL.joinL]
  | p :: q :: r => by
    have ih := joinL_nil (q :: r)
    simp only [TL.joinL, ih]
    simp
theorem flat_len : ∀ (ys : List Str) (n : Nat), (∀ y ∈ ys, y.length ≤ n) → ((ys.map TL.tl).flatten).length ≤ ys.length * n
  | [], _, _ => by simp
  | y :: r, n, h => by
    have ih := flat_len r n fun z hz => h z (List.mem_cons_of_mem _ hz)
    have h1 : y.length ≤ n := h y List.mem_cons_self
    have h2 : (TL.tl y).length = y.length := by simp [TL.tl, Str.length]
    simp only [List.map_cons, List.flatten_cons, List.length_append, List.length_cons, Nat.add_mul, Nat.one_mul]
    omega
theorem join_ok {ys : List Str} {n : Nat} (h : ∀ y ∈ ys, sOk n y) : sOk (ys.length * n) (Txt.join Str.empty ys) := by
  have e : TL.tl (Txt.join Str.empty ys) = (ys.map TL.tl).flatten := by
    rw [TL.join_eq, TL.tl_join]
    exact joinL_nil _
  refine ⟨?_, strOk_iff.mpr fun c hc => ?_⟩
  · have h1 : (Txt.join Str.empty ys).length = (TL.tl (Txt.join Str.empty ys)).length := by simp [TL.tl, Str.length]
    rw [h1, e]
    exact flat_len ys n fun y hy => (h y hy).1
  · have hc' : c ∈ TL.tl (Txt.join Str.empty ys) := hc
    rw [e] at hc'
    obtain ⟨l, hl, hcl⟩ := List.mem_flatten.mp hc'
    obtain ⟨y, hy, rfl⟩ := List.mem_map.mp hl
    exact strOk_iff.mp (h y hy).2 c hcl
theorem sum_le : ∀ (ys : List Str) (n : Nat), (∀ y ∈ ys, y.length ≤ n) → (ys.map (·.length)).sum ≤ ys.length * n
  | [], _, _ => by simp
  | y :: r, n, h => by
    have ih := sum_le r n fun z hz => h z (List.mem_cons_of_mem _ hz)
    have h1 : y.length ≤ n := h y List.mem_cons_self
    simp only [List.map_cons, List.sum_cons, List.length_cons, Nat.add_mul, Nat.one_mul]
    omega
/-- an item at an open place within -/
theorem atI_in {α : Type} {xs : List α} {z : Int} (h0 : 0 ≤ z) (h1 : z < xs.length) : ∃ v, atI xs z = some v ∧ v ∈ xs := by
  obtain ⟨j, rfl⟩ := Int.eq_ofNat_of_zero_le h0
  have hj : j < xs.length := by omega
  exact ⟨xs[j], atI_nat (List.getElem?_eq_getElem hj), List.getElem_mem hj⟩
theorem op_mul_str {X : Cx} : OpR X (binaryOp .Mult) (fun x y H Q => ∃ z n, x = .str z ∧ y = .int n ∧ MulOk z n ∧ Q (.str (Txt.mul z n)) H) := by
  intro pins s σ H x y v u Q I rx ry h
  obtain ⟨z, n, rfl, rfl, hz, q⟩ := h
  obtain ⟨t, rfl⟩ := rx
  obtain ⟨t', rfl⟩ := ry
  exact SB.mul hz fun t' tk => ⟨.str (Txt.mul z n), H, I.tok _, ⟨_, rfl⟩, q⟩
theorem BoxIn.low {H0 H1 H : Hp} {p : Addr} {n : Nat} (b : BoxIn H1 H p n) (s : Same H0 H1) : BoxIn H0 H p n := ⟨s.trans b.same, s.free b.free, b.box⟩
theorem BoxIn.mut {H0 H : Hp} {p D : Addr} {n : Nat} {o : HO} (b : BoxIn H0 H p n) (h1 : D ≠ p) (h2 : H0 D = none) : BoxIn H0 (upd H D o) p n := by
  obtain ⟨d, s', c, h, hh⟩ := b.box
  refine ⟨fun x u e => ?_, b.free, d, s', c, by rw [upd_ne h1.symm]; exact h, hh⟩
  rw [upd_ne (ne_of_none e h2)]
  exact b.same _ _ e
/-- what a def draws: Good of the value, with what is known then -/
def sp_draw (c : Nat) (Good : Hp → V → Prop) : Sp := fun vs H Q _ => ∃ (H0 : Hp) (p : Addr) (n : Nat), vs = [.ref p] ∧ BoxIn H0 H p n ∧ n + c < 1000000 ∧ ∀ (H1 H' : Hp) (v : V), Same H0 H1 → BoxIn H1 H' p (n + c) → Good H1 v → Q v H'
/-! ### the mirror -/
def intO (o : Option PyData) : Bool := isT "int" o && !isT "bool" o
def limO (o : Option PyData) : Bool := nonO o || intO o
def okSign (c : Nat) : Bool := !decide (([c] : List Nat) < [97]) && !decide (([122] : List Nat) < [c])
def nameS (s : Str) : Bool := !(s == ("table" : Str)) && (decide ((1 : Int) ≤ s.length) && (decide ((s.length : Int) ≤ 8) && s.cps.toList.all okSign))
def nameO : Option PyData → Bool
  | some (.str s) => nameS s
  | _ => false
def ltO : PyData → PyData → Bool
  | .int i, .int j => decide (i < j)
  | _, _ => true
def spanO : Option PyData → Bool
  | some (.tuple [l, h]) => limO (some l) && (limO (some h) && ltO l h)
  | _ => false
theorem spanO_no {ds : List PyData} (h : ds.length ≠ 2) : spanO (some (.tuple ds)) = false := by
  match ds, h with
  | [], _ => rfl
  | [_], _ => rfl
  | [_, _], hl => exact absurd rfl hl
  | _ :: _ :: _ :: _, _ => rfl
theorem dp_two {K : PySem.W.Frag} {H : Hp} {xs : List V} {ds : List PyData} (h : DpAll K H xs ds) (e : xs.length = 2) : ∃ x y d e, xs = [x, y] ∧ ds = [d, e] ∧ Dp K H x d ∧ Dp K H y e := by
  match xs, ds, h, e with
  | [x, y], [d, e], .cons h1 (.cons h2 .nil), _ => exact ⟨x, y, d, e, rfl, rfl, h1, h2⟩
theorem spanO_ty {o : Option PyData} (e : isT "tuple" o = false) : spanO o = false := by
  rcases o with _ | d
  · rfl
  · cases d with
    | tuple s => cases e
    | _ => rfl
theorem nameO_no {o : Option PyData} (e : isT "str" o = false) : nameO o = false := by
  rcases o with _ | d
  · rfl
  · cases d with
    | str s => cases e
    | _ => rfl
theorem VD.str_of {K : PySem.W.Frag} {H : Hp} {v : V} {o : Option PyData} (hv : VD K H v o) (e : isT "str" o = true) : ∃ s, v = .str s ∧ o = some (.str s) ∧ s.length ≤ 1000 ∧ PyData.strOk s = true := by
  cases hv with
  | dat a b c =>
    cases a with
    | str s =>
      have := (shaped_iff.mp b).1
      simp only [PyData.canLay0] at this
      exact ⟨s, rfl, rfl, c s rfl, this⟩
    | _ => cases e
  | dic a => cases e
theorem VD.tup_of {K : PySem.W.Frag} {H : Hp} {v : V} {o : Option PyData} (hv : VD K H v o) (e : isT "tuple" o = true) : ∃ a xs ds, v = .ref a ∧ o = some (.tuple ds) ∧ SqT K H a xs ∧ DpAll K H xs ds ∧ SeqAt.shaped (.tuple ds) = true := by
  cases hv with
  | dat a b c =>
    cases a with
    | tup h1 h2 => exact ⟨_, _, _, rfl, rfl, h1, h2, b⟩
    | _ => cases e
  | dic a => cases e
theorem strOk_mem {s : Str} (h : PyData.strOk s = true) {c : Nat} (hc : c ∈ s.cps.toList) : c < 0x110000 := by
  unfold PyData.strOk at h
  rw [Array.all_eq_true'] at h
  exact of_decide_eq_true (h c (by simpa using hc))
theorem strOk_sign {c : Nat} (h : c < 0x110000) : PyData.strOk ⟨#[c]⟩ = true := by
  unfold PyData.strOk
  simp
  omega
/-- the values that are no limits -/
def filt : List V → List PyData → List V
  | x :: xs, d :: ds => if limO (some d) = true then filt xs ds else x :: filt xs ds
  | _, _ => []
theorem filt_len : ∀ (xs : List V) (ds : List PyData), (filt xs ds).length ≤ xs.length
  | [], _ => by simp [filt]
  | _ :: _, [] => by simp [filt]
  | x :: xs, d :: ds => by
    have ih := filt_len xs ds
    simp only [filt]
    split
    · simp only [List.length_cons]
      omega
    · simp only [List.length_cons]
      omega
theorem filt_step : ∀ {xs : List V} {ds : List PyData} {i : Nat} {x : V} {d : PyData}, xs[i]? = some x → ds[i]? = some d → filt (xs.take (i + 1)) (ds.take (i + 1)) = if limO (some d) = true then filt (xs.take i) (ds.take i) else filt (xs.take i) (ds.take i) ++ [x]
  | [], _, _, _, _, h, _ => by simp at h
  | _ :: _, [], _, _, _, _, h => by simp at h
  | y :: ys, e :: es, 0, x, d, h1, h2 => by
    cases h1
    cases h2
    simp [filt]
  | y :: ys, e :: es, i + 1, x, d, h1, h2 => by
    have ih := filt_step (xs := ys) (ds := es) (i := i) (x := x) (d := d) (by simpa using h1) (by simpa using h2)
    simp only [List.take_succ_cons, filt, ih]
    split <;> split <;> simp
theorem filt_dp {K : PySem.W.Frag} {H : Hp} : ∀ {xs : List V} {ds : List PyData}, DpAll K H xs ds → DpAll K H (filt xs ds) (ds.filter fun d => !limO (some d))
  | _, _, .nil => by simp [filt]; exact .nil
  | _, _, .cons (v := v) (d := d) a b => by
    have ih := filt_dp b
    simp only [filt]
    cases h : limO (some d) with
    | true =>
      simp [h]
      exact ih
    | false =>
      simp [h]
      exact .cons a ih
theorem okSign_is (c : Nat) : okSign c = decide (c ∈ ("abcdefghijklmnopqrstuvwxyz" : Str).cps.toList) := by
  have e : ("abcdefghijklmnopqrstuvwxyz" : Str).cps.toList = [97, 98, 99, 100, 101, 102, 103, 104, 105, 106, 107, 108, 109, 110, 111, 112, 113, 114, 115, 116, 117, 118, 119, 120, 121, 122] := by decide +kernel
  rw [e]
  unfold okSign
  rw [Bool.eq_iff_iff, Bool.and_eq_true, decide_eq_true_iff, Bool.not_eq_true', Bool.not_eq_true', decide_eq_false_iff_not, decide_eq_false_iff_not]
  simp only [List.cons_lt_cons_iff, List.not_lt_nil, and_false, or_false, List.mem_cons, List.not_mem_nil]
  omega
def sp_v1 (K : PySem.W.Frag) (f : Option PyData → Bool) : Sp := fun vs H Q _ => ∃ (v : V) (o : Option PyData), vs = [v] ∧ VD K H v o ∧ ∀ H', Same H H' → Q (.bl (f o)) H'
/-- the same without a word on the heap: nothing is made -/
def sp_v0 (K : PySem.W.Frag) (f : Option PyData → Bool) : Sp := fun vs H Q _ => ∃ (v : V) (d : PyData), vs = [v] ∧ Dp K H v d ∧ Q (.bl (f (some d))) H
def sp_vO (K : PySem.W.Frag) (f : Option PyData → Bool) : Sp := fun vs H Q _ => ∃ (v : V) (o : Option PyData), vs = [v] ∧ TyX K H v (.type (tyO o)) ∧ decide (v = .non) = nonO o ∧ Q (.bl (f o)) H
theorem dp_vO {K : PySem.W.Frag} {H : Hp} {v : V} {d : PyData} (h : Dp K H v d) : TyX K H v (.type (tyO (some d))) ∧ decide (v = .non) = nonO (some d) := by
  refine ⟨dp_ty h, ?_⟩
  cases h <;> rfl
theorem vd_vO {K : PySem.W.Frag} {H : Hp} {v : V} {o : Option PyData} (h : VD K H v o) : TyX K H v (.type (tyO o)) ∧ decide (v = .non) = nonO o := ⟨h.ty, vd_non h⟩
/-! ### what is raised -/
/-- an exception of the class at C leaves, with v as its field f -/
def Rz (H : Hp) (E : XK) (C : Addr) (f : Str) (v : V) : Prop := ∀ (d : Addr) (H' : Hp), H d = none → H' d = some (.xd [(f, v)]) → Same H H' → E (.ref C) (some d) H'
theorem Rz.back {H H1 : Hp} {E : XK} {C : Addr} {f : Str} {v : V} (s : Same H H1) (h : Rz H E C f v) : Rz H1 E C f v := fun d H' n x k => h d H' (s.free n) x (s.trans k)
/-- X.__init__: the one field -/
def sp_xinit (K : PySem.W.Frag) (C : Addr) (f : Str) : Sp := fun vs H Q _ => ∃ (a : Addr) (v : V), vs = [.ref a, v] ∧ OexC K C ∧ PySem.W.findIn K (.ref C) f = some none ∧ H a = some (exo a C none) ∧ ∀ dx, H dx = none → dx ≠ a → Q .non (upd (upd H dx (exd dx [(f, v)])) a (exo a C (some dx)))
/-- the reading of «raise X(v)» -/
theorem raise_x {K : PySem.W.Frag} {H : Hp} {E : XK} {C : Addr} {f : Str} {v : V} (x : OexC K C) (n : PySem.W.findIn K (.ref C) f = some none) (h : Rz H E C f v) : ([v] : List V).length ≤ 1000 ∧ ∀ a, H a = none → sp_xinit K C f (.ref a :: ([v] ++ [])) (upd H a (exo a C none))
    (fun v' H2 => v' = .non ∧ ∃ (d : Addr) (fs : List (Str × V)), H2 a = some (exo a C (some d)) ∧ H2 d = some (exd d fs) ∧ H d = none ∧ E (.ref C) (some d) (upd (del H2 a) d (.xd fs))) (fun _ _ _ => False) := by
  refine ⟨by show 1 ≤ 1000; decide, fun a ha => ⟨a, v, rfl, x, n, upd_same, fun dx hdx ne => ⟨rfl, dx, [(f, v)], upd_same, by rw [upd_ne ne, upd_same], ?_, ?_⟩⟩⟩
  · rw [upd_ne ne] at hdx
    exact hdx
  · rw [upd_ne ne] at hdx
    refine h dx _ hdx upd_same fun b o e => ?_
    have nb : b ≠ a := ne_of_none e ha
    have nd : b ≠ dx := ne_of_none e hdx
    rw [upd_ne nd, del_ne nb, upd_ne nb, upd_ne nd, upd_ne nb]
    exact e
/-! ### x in t, t a tuple, data of any depth -/
section
variable {X : Cx}
def rInT (K : PySem.W.Frag) : R2 := fun x y H Q => ∃ d ds, Dp K H x d ∧ Dp K H y (.tuple ds) ∧ SeqAt.shaped d = true ∧ SeqAt.shaped (.tuple ds) = true ∧ Q (.bl (ds.any fun z => PyData.eqv z d)) H
theorem op_inT (hu : X.A.units + 65 < cLine) : OpR X (compareOp .In) (rInT X.K) := by
  intro pins s σ H x y v u Q I rx ry h
  obtain ⟨d, ds, hd, he, sd, se, q⟩ := h
  obtain ⟨as, r1⟩ := Dp.reads I d x v hd rx
  obtain ⟨bs, r2⟩ := Dp.reads I (.tuple ds) y u he ry
  exact SeqAt.in_tuple_reads r2 r1 (SeqAt.canLay_of_shaped se) (SeqAt.canLay_of_shaped sd) (PyProof.Rows.room_in_shaped sd hu) ⟨.bl _, H, I, rfl, q⟩
end
/-! ### what stands written at the top: tuples of texts, dicts of such -/
def seqK (K : PySem.W.Frag) (a : Addr) : Option (List Value) := match K.lookup a with
  | some ⟨.type c, _, .seq its _, _⟩ => if (c == "tuple" && decide (its.size ≤ 1000)) = true then some its.toList else none
  | _ => none
def mapO {α β : Type} (f : α → Option β) : List α → Option (List β)
  | [] => some []
  | x :: r => (f x).bind fun y => (mapO f r).bind fun ys => some (y :: ys)
def datK (K : PySem.W.Frag) : Nat → Value → Option PyData
  | n, .str x _ => some (.str x)
  | n + 1, .ref a => (seqK K a).bind fun us => (mapO (datK K n) us).bind fun ds => some (.tuple ds)
  | _, _ => none
def nsD (K : PySem.W.Frag) (a : Addr) (x : Str) : Option PyData := match PySem.W.nsIn K a x with
  | some (some u) => datK K 4 u
  | _ => none
theorem seqK_ok {K : PySem.W.Frag} {a : Addr} {us : List Value} {xs : List V} (h : seqK K a = some us) (r : Vals xs us) (H : Hp) : SqT K H a xs := by
  unfold seqK at h
  split at h
  · rename_i c dd its n sl q
    split at h
    · rename_i z
      rw [Bool.and_eq_true] at z
      have e1 : c = "tuple" := of_decide_eq_true (by simpa using z.1)
      have e2 := of_decide_eq_true z.2
      have e3 : its.toList = us := Option.some.inj h
      subst e1 e3
      exact .inr ⟨_, its, n, q, rfl, rfl, Nat.le_trans e2 (by decide), r⟩
    · cases h
  · cases h
mutual
theorem datK_ok {K : PySem.W.Frag} : ∀ (n : Nat) {u : Value} {d : PyData}, datK K n u = some d → ∃ v, RelV v u ∧ ∀ H, Dp K H v d
  | 0, .str x t, d, h => by
    have e : PyData.str x = d := Option.some.inj (by simpa [datK] using h)
    subst e
    exact ⟨.str x, ⟨t, rfl⟩, fun H => .str x⟩
  | n + 1, .str x t, d, h => by
    have e : PyData.str x = d := Option.some.inj (by simpa [datK] using h)
    subst e
    exact ⟨.str x, ⟨t, rfl⟩, fun H => .str x⟩
  | n + 1, .ref a, d, h => by
    have h' : ((seqK K a).bind fun us => (mapO (datK K n) us).bind fun ds => some (.tuple ds)) = some d := by simpa [datK] using h
    cases e1 : seqK K a with
    | none => rw [e1] at h'; cases h'
    | some us =>
      rw [e1, Option.bind_some] at h'
      cases e2 : mapO (datK K n) us with
      | none => rw [e2] at h'; cases h'
      | some ds =>
        rw [e2, Option.bind_some] at h'
        have e3 : PyData.tuple ds = d := Option.some.inj h'
        subst e3
        obtain ⟨vs, r, q⟩ := datsK_ok n us e2
        exact ⟨.ref a, rfl, fun H => .tup (seqK_ok e1 r H) (q H)⟩
theorem datsK_ok {K : PySem.W.Frag} : ∀ (n : Nat) (us : List Value) {ds : List PyData}, mapO (datK K n) us = some ds → ∃ vs, Vals vs us ∧ ∀ H, DpAll K H vs ds
  | n, [], ds, h => by
    have e : [] = ds := Option.some.inj h
    subst e
    exact ⟨[], .nil, fun H => .nil⟩
  | n, u :: r, ds, h => by
    have h' : ((datK K n u).bind fun y => (mapO (datK K n) r).bind fun ys => some (y :: ys)) = some ds := h
    cases e1 : datK K n u with
    | none => rw [e1] at h'; cases h'
    | some d =>
      rw [e1, Option.bind_some] at h'
      cases e2 : mapO (datK K n) r with
      | none => rw [e2] at h'; cases h'
      | some es =>
        rw [e2, Option.bind_some] at h'
        have e3 : d :: es = ds := Option.some.inj h'
        subst e3
        obtain ⟨v, rv, qv⟩ := datK_ok n e1
        obtain ⟨vs, rvs, qvs⟩ := datsK_ok n r e2
        exact ⟨v :: vs, .cons rv rvs, fun H => .cons (qv H) (qvs H)⟩
end
/-- an item of a dict of the top -/
theorem nsD_ok {K : PySem.W.Frag} {w : World} {a : Addr} {tb : List (Str × PyData)} (l : ∃ es n, K.lookup a = some ⟨.type "dict", none, .dict es n, #[]⟩ ∧ PySem.W.KeysLit w.params es.toList) (h : tb.map (fun p => nsD K a p.1) = tb.map fun p => some p.2)
    {x : Str} {d : PyData} (m : (x, d) ∈ tb) : ∃ v, KDct K w a x v ∧ ∀ H, Dp K H v d := by
  have e : nsD K a x = some d := by
    have : ∀ {l : List (Str × PyData)}, l.map (fun p => nsD K a p.1) = l.map (fun p => some p.2) → (x, d) ∈ l → nsD K a x = some d := by
      intro l
      induction l with
      | nil => intro _ m; cases m
      | cons p r ih =>
        intro hl m
        rw [List.map_cons, List.map_cons] at hl
        injection hl with h1 h2
        rcases List.mem_cons.mp m with q | q
        · subst q; exact h1
        · exact ih h2 q
    exact this h m
  obtain ⟨es, n, hl, hk⟩ := l
  unfold nsD at e
  split at e
  · rename_i u q
    obtain ⟨v, rv, qv⟩ := datK_ok 4 e
    exact ⟨v, ⟨es, n, u, hl, hk, q, rv⟩, qv⟩
  · cases e
theorem relref {v : V} {a : Addr} (h : RelV v (.ref a)) : v = .ref a := by
  cases v with
  | ref b => cases h; rfl
  | _ => first | cases h; done | exact (by obtain ⟨_, h⟩ := h; exact absurd h (by simp))
theorem u65 {A : Around} {k : Nat} (hr : Room k A) : A.units + 65 < cLine := by
  have := hr.un
  omega
theorem dp_three {K : PySem.W.Frag} {H : Hp} {xs : List V} {ds : List PyData} (h : DpAll K H xs ds) (e : xs.length = 3) : ∃ x y z d e f, xs = [x, y, z] ∧ ds = [d, e, f] ∧ Dp K H x d ∧ Dp K H y e ∧ Dp K H z f := by
  match xs, ds, h, e with
  | [x, y, z], [d, e, f], .cons h1 (.cons h2 (.cons h3 .nil)), _ => exact ⟨x, y, z, d, e, f, rfl, rfl, h1, h2, h3⟩
/-! ### names drawn -/
/-- the items of l, in another order -/
def sp_mixed : Sp := fun vs H Q _ => ∃ (H0 : Hp) (p l : Addr) (n : Nat) (xs : List V), vs = [.ref p, .ref l] ∧ BoxIn H0 H p n ∧ H l = some (.lst xs) ∧ xs.length ≤ 100 ∧ n + xs.length < 1000000 ∧
  ∀ (q : Addr) (H' : Hp) (ys : List V), Same H0 H' → H0 q = none → q ≠ p → H' q = some (.lst ys) → ys.Perm xs → BoxIn H0 H' p (n + xs.length) → Q (.ref q) H'
/-- m names -/
def sp_names : Sp := fun vs H Q _ => ∃ (H0 : Hp) (p : Addr) (n m : Nat), vs = [.ref p, .int m] ∧ BoxIn H0 H p n ∧ m ≤ 13 ∧ n + 40 < 1000000 ∧
  ∀ (q : Addr) (H' : Hp) (ss : List Str), Same H0 H' → H0 q = none → q ≠ p → H' q = some (.lst (ss.map V.str)) → ss.length = m → (∀ s ∈ ss, sOk 16 s) → (∀ s ∈ ss, nameS s = true ∧ s ≠ ("pqz" : Str)) → ss.Nodup → BoxIn H0 H' p (n + 40) → Q (.ref q) H'
theorem strs_of {W : List Str} : ∀ {xs : List V}, (∀ y ∈ xs, ∃ s, s ∈ W ∧ y = V.str s) → ∃ ss : List Str, xs = ss.map V.str ∧ ∀ s ∈ ss, s ∈ W
  | [], _ => ⟨[], rfl, fun s h => by cases h⟩
  | x :: r, h => by
    obtain ⟨s, hs, rfl⟩ := h x List.mem_cons_self
    obtain ⟨ss, rfl, h2⟩ := strs_of (xs := r) fun y hy => h y (List.mem_cons_of_mem _ hy)
    refine ⟨s :: ss, rfl, fun y hy => ?_⟩
    rcases List.mem_cons.mp hy with rfl | q
    · exact hs
    · exact h2 y q
/-! ### the names drawn are names, all different -/
def nmC (stem : Str) (w c : Nat) : Str :=
  let nm : Str := if w = 0 then stem ++ ⟨#[c]⟩ else if w = 1 then (⟨#[c]⟩ : Str) ++ stem else ⟨#[c]⟩
  if nm = "table" then "tables" else nm
def stemsL : List Str := ["", "a", "tabl", "rest", "part", "zzzzzzz"]
theorem nmC_ok : ∀ stem ∈ stemsL, ∀ w ∈ List.range 3, ∀ c ∈ List.range 26, nameS (nmC stem w (97 + c)) = true ∧ nmC stem w (97 + c) ≠ ("pqz" : Str) := by decide +kernel
theorem nmC_ne : ∀ stem ∈ stemsL, ∀ w ∈ List.range 3, ∀ c ∈ List.range 26, ∀ d ∈ List.range 26, c ≠ d → nmC stem w (97 + c) ≠ nmC stem w (97 + d) ∧ nmC stem 0 (97 + c) ≠ nmC stem w (97 + d) := by decide +kernel
def nmS (stem : Str) (f st zw : Int) (i : Nat) : Str := nmC stem (if i = 0 then 0 else zw.toNat) (97 + ((f + st * (i : Int)) % 26).toNat)
theorem sign_ne {f st : Int} (hs : st ∈ ([1, 3, 5, 7, 9, 11] : List Int)) {i j : Nat} (hi : i < 14) (hj : j < 14) (h : i ≠ j) : ((f + st * (i : Int)) % 26).toNat ≠ ((f + st * (j : Int)) % 26).toNat := by
  simp only [List.mem_cons, List.not_mem_nil, or_false] at hs
  rcases hs with rfl | rfl | rfl | rfl | rfl | rfl
  all_goals omega
theorem sign_lt {f st : Int} {i : Nat} : ((f + st * (i : Int)) % 26).toNat ∈ List.range 26 := by
  rw [List.mem_range]
  omega
theorem nmS_ok {stem : Str} (hst : stem ∈ stemsL) {f st zw : Int} (h0 : 0 ≤ zw) (h1 : zw < 3) (i : Nat) : nameS (nmS stem f st zw i) = true ∧ nmS stem f st zw i ≠ ("pqz" : Str) := by
  refine nmC_ok stem hst _ ?_ _ sign_lt
  rw [List.mem_range]
  split <;> omega
theorem nmS_ne {stem : Str} (hst : stem ∈ stemsL) {f st zw : Int} (hs : st ∈ ([1, 3, 5, 7, 9, 11] : List Int)) (h0 : 0 ≤ zw) (h1 : zw < 3) {i j : Nat} (hi : i < 14) (hj : j < 14) (h : i < j) : nmS stem f st zw i ≠ nmS stem f st zw j := by
  have ne := sign_ne (f := f) hs hi hj (Nat.ne_of_lt h)
  have hw : zw.toNat ∈ List.range 3 := by rw [List.mem_range]; omega
  have hj0 : j ≠ 0 := by omega
  have k := nmC_ne stem hst _ hw _ (sign_lt (f := f) (st := st) (i := i)) _ (sign_lt (f := f) (st := st) (i := j)) ne
  unfold nmS
  rw [if_neg hj0]
  by_cases hi0 : i = 0
  · rw [if_pos hi0]
    exact k.2
  · rw [if_neg hi0]
    exact k.1
theorem nmS_nodup {stem : Str} (hst : stem ∈ stemsL) {f st zw : Int} (hs : st ∈ ([1, 3, 5, 7, 9, 11] : List Int)) (h0 : 0 ≤ zw) (h1 : zw < 3) {m : Nat} (hm : m ≤ 13) : ((List.range m).map (nmS stem f st zw)).Nodup := by
  unfold List.Nodup
  rw [List.pairwise_map]
  refine List.Pairwise.imp_of_mem (fun {a b} ha hb hlt => ?_) (List.pairwise_lt_range (n := m))
  have ha := List.mem_range.mp ha
  have hb := List.mem_range.mp hb
  exact nmS_ne hst hs h0 h1 (by omega) (by omega) hlt
def wordsL : List Str := ["begin", "empty", "rest", "step", "end", "look", "old", "new", "put", "part", "move", "split", "lock"]
theorem wordsL_ok : (∀ s ∈ wordsL, nameS s = true ∧ s ≠ ("pqz" : Str)) ∧ wordsL.Nodup := by
  constructor
  · decide +kernel
  · decide +kernel
theorem nodup_of_map {ss : List Str} (h : (ss.map V.str).Nodup) : ss.Nodup := by
  unfold List.Nodup at h ⊢
  rw [List.pairwise_map] at h
  exact h.imp fun k e => k (by rw [e])
theorem nodup_map {ss : List Str} (h : ss.Nodup) : (ss.map V.str).Nodup := by
  unfold List.Nodup at h ⊢
  rw [List.pairwise_map]
  exact h.imp fun k e => k (by injection e)
/-- the sign at a place, as a number -/
theorem letter_at {z : Int} (h0 : 0 ≤ z) (h1 : z < 26) {ch : Nat} (h : atI ("abcdefghijklmnopqrstuvwxyz" : Str).cps.toList z = some ch) : ch = 97 + z.toNat := by
  have all : ∀ n ∈ List.range 26, ("abcdefghijklmnopqrstuvwxyz" : Str).cps.toList[n]? = some (97 + n) := by decide +kernel
  obtain ⟨n, rfl⟩ := Int.eq_ofNat_of_zero_le h0
  have := all n (List.mem_range.mpr (by omega))
  rw [atI_nat this] at h
  injection h with h
  rw [← h]
  rfl
/-- the name at a place of the three forms -/
theorem form_at {a b c : Str} {z : Int} (h0 : 0 ≤ z) (h1 : z < 3) {s : Str} (h : atI [V.str a, .str b, .str c] z = some (.str s)) : s = if z.toNat = 0 then a else if z.toNat = 1 then b else c := by
  obtain ⟨n, rfl⟩ := Int.eq_ofNat_of_zero_le h0
  have : n = 0 ∨ n = 1 ∨ n = 2 := by omega
  rcases this with rfl | rfl | rfl
  all_goals
    cases h
    rfl
/-! ### rules that more than one law wants -/
def filtG (f : PyData → Bool) : List V → List PyData → List V
  | x :: xs, d :: ds => if f d = true then x :: filtG f xs ds else filtG f xs ds
  | _, _ => []
theorem filtG_len (f : PyData → Bool) : ∀ (xs : List V) (ds : List PyData), (filtG f xs ds).length ≤ xs.length
  | [], _ => by simp [filtG]
  | _ :: _, [] => by simp [filtG]
  | x :: xs, d :: ds => by
    have ih := filtG_len f xs ds
    simp only [filtG]
    split
    · simp only [List.length_cons]
      omega
    · simp only [List.length_cons]
      omega
theorem filtG_step {f : PyData → Bool} : ∀ {xs : List V} {ds : List PyData} {i : Nat} {x : V} {d : PyData}, xs[i]? = some x → ds[i]? = some d → filtG f (xs.take (i + 1)) (ds.take (i + 1)) = if f d = true then filtG f (xs.take i) (ds.take i) ++ [x] else filtG f (xs.take i) (ds.take i)
  | [], _, _, _, _, h, _ => by simp at h
  | _ :: _, [], _, _, _, _, h => by simp at h
  | y :: ys, e :: es, 0, x, d, h1, h2 => by
    cases h1
    cases h2
    simp [filtG]
  | y :: ys, e :: es, i + 1, x, d, h1, h2 => by
    have ih := filtG_step (f := f) (xs := ys) (ds := es) (i := i) (x := x) (d := d) (by simpa using h1) (by simpa using h2)
    simp only [List.take_succ_cons, filtG, ih]
    split <;> split <;> simp
theorem filtG_dp {K : PySem.W.Frag} {H : Hp} {f : PyData → Bool} : ∀ {xs : List V} {ds : List PyData}, DpAll K H xs ds → DpAll K H (filtG f xs ds) (ds.filter f)
  | _, _, .nil => by simp [filtG]; exact .nil
  | _, _, .cons (v := v) (d := d) a b => by
    have ih := filtG_dp (f := f) b
    simp only [filtG]
    cases h : f d with
    | true =>
      simp [h]
      exact .cons a ih
    | false =>
      simp [h]
      exact ih
theorem range_filter_step (c : Nat → Bool) (i : Nat) : (List.range (i + 1)).filter c = if c i = true then (List.range i).filter c ++ [i] else (List.range i).filter c := by
  rw [List.range_succ, List.filter_append]
  cases h : c i with
  | true => simp [h]
  | false => simp [h]
theorem dpAll_take {K : PySem.W.Frag} {H : Hp} : ∀ {xs : List V} {ds : List PyData} (n : Nat), DpAll K H xs ds → DpAll K H (xs.take n) (ds.take n)
  | _, _, 0, _ => .nil
  | _, _, _ + 1, .nil => .nil
  | _, _, n + 1, .cons a b => .cons a (dpAll_take n b)
theorem dpAll_drop {K : PySem.W.Frag} {H : Hp} : ∀ {xs : List V} {ds : List PyData} (n : Nat), DpAll K H xs ds → DpAll K H (xs.drop n) (ds.drop n)
  | _, _, 0, h => h
  | _, _, _ + 1, .nil => .nil
  | _, _, n + 1, .cons _ b => dpAll_drop n b
theorem dpAll_app {K : PySem.W.Frag} {H : Hp} : ∀ {xs ys : List V} {ds es : List PyData}, DpAll K H xs ds → DpAll K H ys es → DpAll K H (xs ++ ys) (ds ++ es)
  | _, _, _, _, .nil, h => h
  | _, _, _, _, .cons a b, h => .cons a (dpAll_app b h)
theorem cut_takeV (ys : List V) {i : Nat} (h : i ≤ ys.length) : cutV ys none (some (i : Int)) = ys.take i := by
  unfold cutV
  rw [HT.sIx_none, HT.sIx_nat, List.drop_zero, Nat.sub_zero, Nat.min_eq_left h]
theorem cut_dropV (ys : List V) {i : Nat} (h : i ≤ ys.length) : cutV ys (some (i : Int)) none = ys.drop i := by
  unfold cutV
  rw [HT.sIx_none, HT.sIx_nat, Nat.min_eq_left h]
  exact List.take_of_length_le (by rw [List.length_drop]; exact Nat.le_refl _)
/-- a datum of three deep at most, its texts short -/
theorem in_strs (k : Str) (ss : List Str) : inV (.str k) (ss.map V.str) = decide (k ∈ ss) := by
  unfold inV
  rw [Bool.eq_iff_iff, List.any_eq_true, decide_eq_true_iff]
  constructor
  · rintro ⟨z, hz, e⟩
    obtain ⟨t, ht, rfl⟩ := List.mem_map.mp hz
    have : (t == k) = true := e
    rw [← eq_of_beq this]
    exact ht
  · intro h
    exact ⟨_, List.mem_map.mpr ⟨k, h, rfl⟩, by show (k == k) = true; simp⟩
theorem flat_strs (ss : List Str) : (ss.map V.str).all flatV = true := by
  rw [List.all_eq_true]
  intro x hx
  obtain ⟨s, _, rfl⟩ := List.mem_map.mp hx
  rfl
theorem dpAll_ints {K : PySem.W.Frag} {H : Hp} : ∀ ns : List Int, DpAll K H (ns.map V.int) (ns.map PyData.int)
  | [] => .nil
  | n :: r => .cons (.int n) (dpAll_ints r)
theorem ints_shaped (ns : List Int) : SeqAt.shaped (.list (ns.map PyData.int)) = true := shaped_list (n := 0) (by decide) fun d hd => by
  obtain ⟨i, _, rfl⟩ := List.mem_map.mp hd
  exact ⟨rfl, by simp [PyData.depth]⟩
theorem sure2 {w : Str} {v : V} (h : sureV v = true) : ([.str w, v] : List V).all sureV = true := by
  show (sureV (.str w) && (sureV v && true)) = true
  rw [h]
  rfl
/-! ### objects of own classes: ==, str, made within a try, dicts of data -/
section
open PySem.Spec PySem.Calls PyProof.Rows
section
variable {X : Cx} {CX : CXT} {k : Nat} {f C : Addr} {fd : FuncData} {ps : List Str} {sp : Sp}
/-- x == y by the own __eq__ of x, whatever y is -/
def rEqI (K : PySem.W.Frag) (C : Addr) (sp : Sp) (E : XK) : R2 := fun x y H Q => ∃ (a dx : Addr) (fs : List (Str × V)) (tb : Value), x = .ref a ∧ H a = some (.ins C dx fs) ∧ TyX K H y tb ∧ PySem.W.notFirst K C tb = true ∧ sp [x, y] H Q E
theorem op_eqI {E : XK} (F : FnOk X.prog X.w X.K X.mg X.base CX k f fd ps sp) (hr : Room k X.A) (hb : Binds X.K fd ps []) (hs : PySem.W.findIn X.K (.ref C) "__eq__" = some (some (.ref f))) (hf : PySem.W.isFn X.K (.ref f) = true) (hx : Passes CX X E) : OpR X (compareOp .Eq) (rEqI X.K C sp E) := by
  intro pins s σ H x y v u Q I rx ry h
  obtain ⟨a, dx, fs, tb, rfl, ha, ty, hn, q⟩ := h
  cases (show v = Value.ref a from rx)
  obtain ⟨mA, J, _⟩ := ins_get I.hok ha
  obtain ⟨od, J, _⟩ := J.look
  obtain ⟨Pt, kx, pt, _⟩ := kit_of I ry ty
  obtain ⟨m, hF⟩ := I.fr
  refine PySem.W.cmp_K (op := .Eq) (tb := tb) hr.units0 hF I.ok.mod.kin J (kx.ty _ _ I.kIn pt) hn hs hf ?_
  refine wpAny_mono (run_fn (us := [.ref a, u]) (vs := [.ref a, y]) (ds := []) (dvs := []) F hr hb .nil hx I (.cons rfl (.cons ry .nil)) (by simpa using q)) (fun w s' z => ?_) fun _ _ x => x
  obtain ⟨z', H', I', rz, qz⟩ := z
  exact SlX.cmpback rz ⟨z', H', I', rz, qz⟩
/-- str(x) by the own __str__ of x -/
def rStrI (C : Addr) (sp : Sp) (E : XK) : List V → Hp → VK → Prop := fun xs H Q => ∃ (a dx : Addr) (fs : List (Str × V)), xs = [.ref a] ∧ H a = some (.ins C dx fs) ∧ sp [.ref a] H (fun z H' => ∃ t, z = .str t ∧ Q z H') E
theorem call_strI {E : XK} (F : FnOk X.prog X.w X.K X.mg X.base CX k f fd ps sp) (hr : Room (k + 2) X.A) (hb : Binds X.K fd ps []) (hs : PySem.W.findIn X.K (.ref C) "__str__" = some (some (.ref f))) (hf : PySem.W.isFn X.K (.ref f) = true) (hx : Passes CX X E) : CallR X (.type "str") (rStrI C sp E) := by
  intro pins s σ H xs us Q I r h
  obtain ⟨a, dx, fs, rfl, ha, q⟩ := h
  obtain ⟨u, rfl, ru⟩ := r.one
  cases (show u = Value.ref a from ru)
  obtain ⟨mA, J, _⟩ := ins_get I.hok ha
  obtain ⟨od, J, _⟩ := J.look
  have hr2 : Room k X.A.in1.in1 := (show Room (k + 1) X.A.in1 from Room.in1 hr).in1
  have hl := F.len _ _ _ _ q
  refine PySem.W.kso_call hr2.units0 I.kIn J hs hf (wpAny_call (codeAny_mono (F.run X.A.in1.in1 X.stack s H ⟨[.ref a], []⟩ [.ref a] [.ref a] _ E hr2 I.env0.in1.in1 (by
    have := hb s [.ref a] I.kIn (by simpa using hl)
    simpa using this) (.cons rfl .nil) q) fun r s' hq => ?_))
  cases r with
  | error e => exact hx pins σ H s e s' I hq
  | ok fl =>
    cases fl with
    | ret w =>
      obtain ⟨z, H', I', rz, t, ez, qz⟩ := I.after hq
      subst ez
      obtain ⟨tk, e⟩ := rz
      cases e
      exact ⟨.str t, H', I', ⟨tk, rfl⟩, qz⟩
    | next => exact False.elim hq
    | brk => exact False.elim hq
    | cont => exact False.elim hq
end
section
variable {X : Cx} {CX : CXT} {k : Nat} {f C : Addr} {fd : FuncData} {ps : List Str} {sp : Sp} {x : Str} {p pos : Pos} {e : Expr} {es : List Expr} {t : TA}
theorem run_makeS {E : L2.St → XK} {pins : List (Addr × Obj)} {σ : L2.St} {H : Hp} {s : Shared} {Q : VK} {us : List Value} {vs : List V} (M : Mk X.K C f) (F : FnOk X.prog X.w X.K X.mg X.base CX k f fd ps sp) (hr : Room (k + 1) X.A) (hb : Binds X.K fd ps [])
    (hx : PassesAt CX X σ (E σ)) (I : Inv X pins σ H s) (r : Vals vs us)
    (h : ∀ x dx, H x = none → H dx = none → dx ≠ x → sp (.ref x :: vs) (upd (upd H dx (.own x)) x (.ins C dx [])) (fun v H2 => v = .non ∧ Q (.ref x) H2) (E σ)) :
    wpAny (model X.prog X.w) X.A (call (.ref C) us) (EP X pins σ Q) X.xe s := by
  have hq := h (s.heap.objs.size + 1) s.heap.objs.size (I.hok.fresh (Nat.le_succ _)) (I.hok.fresh (Nat.le_refl _)) (Nat.ne_of_lt (Nat.lt_succ_self _))
  have I2 := Inv.made (C := C) I
  have r2 : Vals (V.ref (s.heap.objs.size + 1) :: vs) (Value.ref (s.heap.objs.size + 1) :: us) := .cons rfl r
  have hl : (Value.ref (s.heap.objs.size + 1) :: us).length = ps.length := by
    have e := r2.length
    rw [F.len _ _ _ _ hq] at e
    exact e.symm
  have bd := hb _ (Value.ref (s.heap.objs.size + 1) :: us) I2.kIn (by rw [List.append_nil]; exact hl)
  rw [List.append_nil] at bd
  refine wpAny_call (make_map (f := f) I.kIn M.makes M.init (beq_iff_eq.mp M.fn) (codeAny_mono (F.run _ X.stack _ _ ⟨Value.ref (s.heap.objs.size + 1) :: us, []⟩ (Value.ref (s.heap.objs.size + 1) :: us) _ _ (E σ) (hr.make C us [])
    (I2.env0.make C us []) bd r2 hq) fun r s' hq' => ?_))
  cases r with
  | error e => exact hx pins _ _ e s' I2 hq'
  | ok fl =>
    cases fl with
    | ret u =>
      obtain ⟨v, H', I3, rv, ev, q3⟩ := I2.after hq'
      subst ev
      exact ⟨rv, ⟨V.ref (s.heap.objs.size + 1), H', I3, rfl, q3⟩⟩
    | next => exact False.elim hq'
    | brk => exact False.elim hq'
    | cont => exact False.elim hq'
/-- C(..), whose __init__ may raise, within a try -/
def tMakeS (C : Addr) (sp : Sp) (E : L2.St → XK) (t : TA) : TE := fun σ H Q => t σ H fun vs H1 => ∀ x dx, H1 x = none → H1 dx = none → dx ≠ x → sp (.ref x :: vs) (upd (upd H1 dx (.own x)) x (.ins C dx [])) (fun v H2 => v = .non ∧ Q (.ref x) H2) (E σ)
theorem pe_makeS {E : L2.St → XK} (M : Mk X.K C f) (F : FnOk X.prog X.w X.K X.mg X.base CX k f fd ps sp) (hr : Room (k + 1) X.A) (hg : Gl X x) (hm : X.mg x = some (.ref C)) (hb : Binds X.K fd ps []) (hx : ∀ σ, PassesAt CX X σ (E σ))
    (ha : PA X (e :: es) t) (hdb : (x == ("__debug__" : Str)) = false := by decide) (he : starEach (e :: es) X.env = (false, eval e X.env) :: starEach es X.env := by rfl) (hpl : (backTo pos (starEach es X.env)).any (·.1) = false := by rfl) :
    PE X (.Call (.Name x p) (e :: es) [] pos) (tMakeS C sp E t) := by
  refine ⟨fun pins s σ H Q I h => ?_⟩
  refine wpAny_Call_Name_kw (ld_glob I hg hm ?_ hdb)
  refine PySem.W.callWith_K (h₀ := X.base) I.ok.mod.kin M.kp (thn (ha.run pos pins s σ H _ I h) fun us s1 ⟨vs, H1, I1, r, q⟩ => ⟨I1.kIn, ?_⟩) he hpl
  exact run_makeS M F hr hb (hx σ) I1 r q
/-- C(k = v, ..) -/
def tMakeKw (C : Addr) (m : Nat) (sp : Sp) (g : List V → List V → List V) (E : L2.St → XK) (tk : TA) : TE := fun σ H Q => tk σ H fun zs H2 => zs.length = m ∧ ∀ x dx, H2 x = none → H2 dx = none → dx ≠ x → sp (g [.ref x] zs) (upd (upd H2 dx (.own x)) x (.ins C dx [])) (fun v H3 => v = .non ∧ Q (.ref x) H3) (E σ)
theorem run_makeKw {E : L2.St → XK} {ks : List Str} {g : {α : Type} → List α → List α → List α} {pins : List (Addr × Obj)} {σ : L2.St} {H : Hp} {s : Shared} {Q : VK} {ws : List Value} {zs : List V} (M : Mk X.K C f) (F : FnOk X.prog X.w X.K X.mg X.base CX k f fd ps sp) (hr : Room (k + 1) X.A)
    (bnd : KwB X.K fd ps 1 ks g) (hx : PassesAt CX X σ (E σ)) (I : Inv X pins σ H s) (rz : Vals zs ws) (l2 : zs.length = ks.length)
    (h : ∀ x dx, H x = none → H dx = none → dx ≠ x → sp (g [.ref x] zs) (upd (upd H dx (.own x)) x (.ins C dx [])) (fun v H2 => v = .non ∧ Q (.ref x) H2) (E σ)) :
    wpAny (model X.prog X.w) X.A (call (.ref C) [] (ks.zip ws)) (EP X pins σ Q) X.xe s := by
  have hq := h (s.heap.objs.size + 1) s.heap.objs.size (I.hok.fresh (Nat.le_succ _)) (I.hok.fresh (Nat.le_refl _)) (Nat.ne_of_lt (Nat.lt_succ_self _))
  have I2 := Inv.made (C := C) I
  have r1 : Vals [V.ref (s.heap.objs.size + 1)] [Value.ref (s.heap.objs.size + 1)] := .cons rfl .nil
  have r2 := bnd.rel (vs := [V.ref (s.heap.objs.size + 1)]) rfl l2 r1 rz
  refine wpAny_call (make_map (f := f) I.kIn M.makes M.init (beq_iff_eq.mp M.fn) (codeAny_mono (F.run _ X.stack _ _ ⟨[Value.ref (s.heap.objs.size + 1)], ks.zip ws⟩ (g [Value.ref (s.heap.objs.size + 1)] ws) _ _ (E σ) (hr.make C [] (ks.zip ws))
    (I2.env0.make C [] (ks.zip ws)) (.of_eq (bnd.to [Value.ref (s.heap.objs.size + 1)] ws rfl (rz.length.symm.trans l2))) r2 hq) fun r s' hq' => ?_))
  cases r with
  | error e => exact hx pins _ _ e s' I2 hq'
  | ok fl =>
    cases fl with
    | ret u =>
      obtain ⟨v, H', I3, rv, ev, q3⟩ := I2.after hq'
      subst ev
      exact ⟨rv, ⟨V.ref (s.heap.objs.size + 1), H', I3, rfl, q3⟩⟩
    | next => exact False.elim hq'
    | brk => exact False.elim hq'
    | cont => exact False.elim hq'
theorem pe_makeKw0 {E : L2.St → XK} {ks : List Str} {g : {α : Type} → List α → List α → List α} {kws : List Keyword} {tk : TA} (M : Mk X.K C f) (F : FnOk X.prog X.w X.K X.mg X.base CX k f fd ps sp) (room : Room (k + 1) X.A) (gl : Gl X x) (m : X.mg x = some (.ref C)) (bnd : KwB X.K fd ps 1 ks g) (px : ∀ σ, PassesAt CX X σ (E σ)) (kw : PK X kws tk)
    (h1 : (backToKw pos (keywordEach kws X.env)).all (·.1.isSome) = true := by rfl) (h2 : (backToKw pos (keywordEach kws X.env)).filterMap (·.1) = ks := by rfl) (h3 : (x == ("__debug__" : Str)) = false := by decide)
    (h4 : ((backTo pos (starEach [] X.env)).any (·.1) || (backToKw pos (keywordEach kws X.env)).any (·.1.isNone)) = false := by rfl) : PE X (.Call (.Name x p) [] kws pos) (tMakeKw C ks.length sp g E tk) := by
  constructor
  intro pins s σ H Q I h
  apply wpAny_Call_Name_kw
  refine ld_glob I gl m ?_ h3
  refine PySem.W.callWith_KW0 (h₀ := X.base) I.ok.mod.kin M.kp h1 ?_ h4
  refine thn (kw.run pos pins s σ H _ I h) fun ws s2 got => ?_
  obtain ⟨zs, H2, I2, rz, l2, q2⟩ := got
  rw [h2]
  exact ⟨I2.kIn, run_makeKw M F room bnd (px σ) I2 rz l2 q2⟩
end
/-- the entries of a dict as data -/
inductive Ents (K : PySem.W.Frag) (H : Hp) : List (Key × V) → List (Key × PyData) → Prop
  | nil : Ents K H [] []
  | cons {k : Key} {v : V} {d : PyData} {r : List (Key × V)} {rd : List (Key × PyData)} : Dp K H v d → SeqAt.shaped d = true → Ents K H r rd → Ents K H ((k, v) :: r) ((k, d) :: rd)
theorem Ents.mono {K : PySem.W.Frag} {H H' : Hp} (s : Same H H') {ks : List (Key × V)} {ds : List (Key × PyData)} (h : Ents K H ks ds) : Ents K H' ks ds := by
  induction h with
  | nil => exact .nil
  | cons a b _ ih => exact .cons (dp_mono s a) b ih
def findD : List (Key × PyData) → Key → Option PyData
  | [], _ => none
  | (j, d) :: r, k => if j = k then some d else findD r k
theorem Ents.at_ {K : PySem.W.Frag} {H : Hp} {ks : List (Key × V)} {ds : List (Key × PyData)} (h : Ents K H ks ds) (k : Key) : (valV ks k = none ∧ findD ds k = none) ∨ ∃ v d, valV ks k = some v ∧ findD ds k = some d ∧ Dp K H v d ∧ SeqAt.shaped d = true := by
  induction h with
  | nil => exact .inl ⟨rfl, rfl⟩
  | @cons j v d r rd a b c ih =>
    by_cases e : j = k
    · exact .inr ⟨v, d, valV_pos e, if_pos e, a, b⟩
    · rw [valV_neg (p := (j, v)) e, show findD ((j, d) :: rd) k = findD rd k from if_neg e]
      exact ih
theorem Ents.len {K : PySem.W.Frag} {H : Hp} {ks : List (Key × V)} {ds : List (Key × PyData)} (h : Ents K H ks ds) : ks.length = ds.length := by
  induction h with
  | nil => rfl
  | cons a b _ ih => exact congrArg (· + 1) ih
def entsEq (dk dl : List (Key × PyData)) : Bool := dk.all fun p => match findD dl p.1 with
  | some e => PyData.eqv p.2 e
  | none => false
section
variable {X : Cx} {pins : List (Addr × Obj)} {σ : L2.St} {H : Hp} {s : Shared}
theorem ents_hits (I : Inv X pins σ H s) (hu : X.A.units + 65 < cLine) {ls : List (Key × V)} {dl : List (Key × PyData)} (el : Ents X.K H ls dl) {vb : List (Key × Value)} (rb : KV ls vb) {ks : List (Key × V)} {dk : List (Key × PyData)} (ek : Ents X.K H ks dk) :
    ∀ {va : List (Key × Value)}, KV ks va → PySem.W.KeqHitsP X.prog X.w X.A.in1 s vb va (entsEq dk dl) := by
  induction ek with
  | nil =>
    intro va ra
    cases ra
    exact .nil
  | @cons k v d r rd a b c ih =>
    intro va ra
    cases ra with
    | @cons p q ps qs h t =>
      obtain ⟨h1, h2⟩ := h
      obtain ⟨key, u⟩ := q
      have h1 : k = key := h1
      subst h1
      have rr : RelO (valV ls k) (valueAt vb k) := rb.val k
      rcases el.at_ k with ⟨e1, e2⟩ | ⟨y, e, e1, e2, de, se⟩
      · rw [e1] at rr
        have hn : valueAt vb k = none := by
          cases hv : valueAt vb k with
          | none => rfl
          | some z =>
            rw [hv] at rr
            exact rr.elim
        have ee : entsEq ((k, d) :: rd) dl = false := by
          unfold entsEq
          rw [List.all_cons, e2]
          rfl
        rw [ee]
        exact .miss hn
      · rw [e1] at rr
        obtain ⟨z, hz, rz⟩ := rr.some_of
        have ee : entsEq ((k, d) :: rd) dl = (PyData.eqv d e && entsEq rd dl) := by
          unfold entsEq
          rw [List.all_cons, e2]
        rw [ee]
        obtain ⟨as, r1⟩ := Dp.reads I d v u a h2
        obtain ⟨bs, r2⟩ := Dp.reads I e y z de rz
        have s1 := shaped_iff.mp b
        have s2 := shaped_iff.mp se
        refine .hit hz (SeqAt.EqAt.eqP (SeqAt.eqAt_reads d e X.A.in1 s u z as bs r1 r2 s1.1 s2.1 ?_)) (ih t)
        have : X.A.in1.units = X.A.units + 1 := rfl
        rw [this]
        have := s1.2
        omega
/-- two dicts whose values are data -/
def rEqDD (K : PySem.W.Frag) : R2 := fun x y H Q => ∃ (a b : Addr) (ks ls : List (Key × V)) (dk dl : List (Key × PyData)), x = .ref a ∧ y = .ref b ∧ H a = some (.dK ks) ∧ H b = some (.dK ls) ∧ Ents K H ks dk ∧ Ents K H ls dl ∧ Q (.bl (dk.length == dl.length && entsEq dk dl)) H
end
theorem op_eqDD {X : Cx} (hu : X.A.units + 65 < cLine) : OpR X (compareOp .Eq) (rEqDD X.K) := by
  intro pins s σ H x y v u Q I rx ry h
  obtain ⟨a, b, ks, ls, dk, dl, rfl, rfl, ea, eb, ek, el, q⟩ := h
  cases (show v = Value.ref a from rx)
  cases (show u = Value.ref b from ry)
  obtain ⟨_, ya, va, ra, da⟩ := (show ObjOk X.prog X.w H s.heap a (.dK ks) from I.hok a _ ea)
  obtain ⟨_, yb, vb, rb, db⟩ := (show ObjOk X.prog X.w H s.heap b (.dK ls) from I.hok b _ eb)
  refine PySem.W.rcP_dicts (knd := mixKind X.prog X.w) (r := entsEq dk dl) ya yb da db (by omega) (fun _ => ents_hits I hu el rb ek ra) _ _ ?_
  have e1 : va.length = dk.length := by rw [← ra.length]; exact ek.len
  have e2 : vb.length = dl.length := by rw [← rb.length]; exact el.len
  rw [e1, e2]
  exact ⟨.bl _, H, I, rfl, q⟩
end
/-- a dict comprehension over what is walked -/
theorem dc_it {J : It} {n : Nat} {G : Hp → Prop} {Y : Nat → Hp → V → Hp → Prop} (w : Walk J n G Y) {g : TG} {tt : TT} {tk tv : TE} {vs : List Nat} {σ : L2.St} {H1 : Hp} {D : Addr} {Qd : Hp → Prop} (Pv : Nat → Hp → Prop) (h0 : Pv 0 (upd H1 D (.dK []))) (hG : ∀ i H, i ≤ n → Pv i H → G H)
    (hs : ∀ i x H H', i < n → Pv i H → Y i H x H' → g x (wipe σ vs) H' fun σ2 H2 => wipe σ2 vs = wipe σ vs ∧ tt σ2 H2 fun b H3 =>
      if b = true then tk σ2 H3 fun y H4 => tv σ2 H4 fun z H5 => ∃ kvs k, y = kV k ∧ H5 D = some (.dK kvs) ∧ kvs.length < sizeLine ∧ Pv (i + 1) (upd H5 D (.dK (putK kvs k z))) else Pv (i + 1) H3) (hd : ∀ H, Pv n H → Qd H) :
    ∃ W : Nat → Nat → Hp → Prop, (∃ m, W 0 m (upd H1 D (.dK []))) ∧ ∀ i m H, W i m H →
      (J.stop i H ∧ Qd H) ∨ (J.go i H ∧ ∃ Nx : Hp → Prop, (∀ H', Nx H' → ∃ m', m' < m ∧ W (i + 1) m' H') ∧ ∀ x H', J.yld i H x H' → g x (wipe σ vs) H' fun σ2 H2 => wipe σ2 vs = wipe σ vs ∧ tt σ2 H2 fun b H3 =>
        if b = true then tk σ2 H3 fun y H4 => tv σ2 H4 fun z H5 => ∃ kvs k, y = kV k ∧ H5 D = some (.dK kvs) ∧ kvs.length < sizeLine ∧ Nx (upd H5 D (.dK (putK kvs k z))) else Nx H3) := by
  refine ⟨fun i m H => m = n - i ∧ i ≤ n ∧ Pv i H, ⟨n, by simp, Nat.zero_le _, h0⟩, ?_⟩
  rintro i m H ⟨rfl, hi, p⟩
  have q := hG i H hi p
  by_cases hlt : i < n
  · exact .inr ⟨w.goes i H hlt q, Pv (i + 1), fun H' p' => ⟨n - (i + 1), by omega, rfl, hlt, p'⟩, fun x H' y => hs i x H H' hlt p (w.yields i H x H' hlt q y)⟩
  · have e : i = n := by omega
    subst e
    exact .inl ⟨w.stops H q, hd H p⟩
/-- what a join asks, within a comprehension too -/
def rJoinK (K : PySem.W.Frag) : V → List V → Hp → VK → Prop := fun x xs H Q => ∃ (a : Str) (p : Addr), ∃ ys : List Str, x = .str a ∧ xs = [.ref p] ∧ (SqL K H p (ys.map V.str) ∨ SqT K H p (ys.map V.str)) ∧ (ys.map (·.length)).sum + ys.length * a.length ≤ 16777216 ∧ Q (.str (Txt.join a ys)) H
/-- f'..' within a comprehension -/
def tJoined (ts : List TE) : TE := fun σ H Q => tJs ts Str.empty σ H fun out H1 => Q (.str out) H1
theorem pe_joinedN {X : Cx} {v1 v2 : Expr} {rest : List Expr} {ts : List TE} {pos : Pos} (h : PJ X (v1 :: v2 :: rest) ts) : PE X (.JoinedStr (v1 :: v2 :: rest) pos) (tJoined ts) := pe_joined h
/-! ### xs[::-1] -/
section
open PySem.Spec PySem.Calls PyProof.Rows
def tRev (K : PySem.W.Frag) (te : TE) (ts : TO) : TE := fun σ H Q => te σ H fun x H1 => ts σ H1 fun st H2 => ∃ (a : Addr) (xs : List V), x = .ref a ∧ st = some (-1) ∧ SqL K H2 a xs ∧ ∀ p, H2 p = none → Q (.ref p) (upd H2 p (.lst xs.reverse))
theorem Vals.rev {xs : List V} {us : List Value} (r : Vals xs us) : Vals xs.reverse us.reverse := by
  induction r with
  | nil => exact .nil
  | cons a b ih =>
    rw [List.reverse_cons, List.reverse_cons]
    exact ih.append (.cons a .nil)
theorem pe_rev {X : Cx} {e : Expr} {te : TE} {st : Expr} {ts : TO} {pos p2 : Pos} (he : PE X e te) (hs : PO X (some st) ts) : PE X (.Subscript e (.Slice none none (some st) p2) pos) (tRev X.K te ts) := by
  refine ⟨fun pins s σ H Q I h => ?_⟩
  refine Subscript_ (thn (he.run pins s σ H _ I h) fun v s1 ⟨x, H1, I1, r1, q1⟩ => ?_)
  refine wpAny_Slice ?_
  rw [evalPart_none]
  refine wpAny_pure (wpAny_pure (thn (hs.run pins s1 σ H1 _ I1 q1) fun vs s3 ⟨stp, H3, I3, ps, a, xs, ex, est, sq, q⟩ => ?_))
  subst ex est
  cases (show v = Value.ref a from r1)
  have I4 : Inv X pins σ H3 { s3 with heap := s3.heap.push { cls := .type "slice", data := .fields #[.none, .none, vs] } } := I3.kept (t' := s3.toks) fun b ob q => Heap.get?_push_of_some _ q
  obtain ⟨its, r, ht, hz⟩ := I4.list sq
  have hlen := r.length
  show wpAny (model X.prog X.w) X.A (subscriptTail e (.Slice none none (some st) p2) (.ref a) (.ref s3.heap.objs.size)) (EP X pins σ Q) X.xe { s3 with heap := s3.heap.push { cls := .type "slice", data := .fields #[.none, .none, vs] } }
  refine tail_any (ops := [.ref a, .ref s3.heap.objs.size]) ht.isList.typeIs slot_list_getitem.lookup ?_ (by with_unfolding_all rfl)
  refine wpAny_getItem_list_slice ht.isList (Heap.IsSliceOf.new ..) .none .none ps (by decide) ?_ (by rw [List.size_toArray]; omega)
  rw [PySem.W.krv_pick]
  refine ⟨.ref _, _, I4.laid (t' := s3.toks) (o := .lst xs.reverse) (fun b ob q => Heap.get?_push_of_some _ q) (Nat.le_refl _) ?_, rfl, q _ (I4.hok.fresh (Nat.le_refl _))⟩
  have rr : Vals xs.reverse its.reverse := Vals.rev r
  exact ⟨by rw [List.length_reverse]; exact hz, _, 0, rr, Heap.get?_push_size _ rfl⟩
end
/-! ### raising where the context of what is raised is None (layer L2N) -/
section
open PySem.Spec PySem.Calls PyProof.Rows
theorem passLN {X : Cx} : Passes (L2N.CX X.prog X.w) X E0 := fun _ _ _ _ _ _ _ got => by
  obtain ⟨_, _, _, _, _, _, _, _, _, _, _, _, bad⟩ := got
  exact bad.elim
theorem passCN {X : Cx} {E : XK} (tk : L2N.Takes X (fun cls d _ H => E cls d H)) : Passes (L2N.CX X.prog X.w) X E := L2N.passes_call tk fun _ _ _ _ q => q
theorem passAtN {X : Cx} {W : WX} (tk : L2N.Takes X W) (σ : L2.St) : PassesAt (L2N.CX X.prog X.w) X σ (WE W σ) := fun _ _ _ u t J q => tk u t (L2N.XE.of_call J (fun _ _ _ z => z) q)
section
variable {P : Program} {w : World} {K : PySem.W.Frag} {mg : Str → Option Value} {base : Heap}
theorem okXN {x qual : Str} {st : Stmt} {f : Addr} {fd : FuncData} {N ps : List Str} {k : Nat} {sp : Sp} (F : Fun K x qual st f fd) (S : FnScope N ps (defScope st)) (hl : ∀ vs H Q E, sp vs H Q E → vs.length = ps.length)
    (body : ∀ (cdv : Value) (A : Around) (outer : List Env) (s : Shared) (H : Hp) (vs : List V) (Q : VK) (E : XK), Room k (A.deeper (envOfC qual (defScope st) s.heap.objs.size f cdv)) → sp vs H Q E →
      ∃ t, PSs (cxOf (L2N.CX P w) P w K mg base N qual (defScope st) f cdv A outer s H E) (defBody st) t ∧ t { nx := fun _ H' => Q .non H', rt := Q } (L2.start N vs) H) : FnOk P w K mg base (L2N.CX P w) (k + 1) f fd ps sp := by
  obtain ⟨_, _, _, _, _, _, c, _, _, rfl, found, isC⟩ := F.ex
  exact fn_of found isC S hl fun A outer s H vs Q E room q => body c A outer s H vs Q E room q
end
section
variable {P : Program} {w : World} {K : PySem.W.Frag} {mg : Str → Option Value} {base : Heap}
/-- a def that is called within an except suite -/
theorem okHot {CX : CXT} {x qual : Str} {st : Stmt} {f : Addr} {fd : FuncData} {N ps : List Str} {k : Nat} {sp : Sp} (F : Fun K x qual st f fd) (S : FnScope N ps (defScope st)) (hl : ∀ vs H Q E, sp vs H Q E → vs.length = ps.length)
    (body : ∀ (cdv : Value) (A : Around) (outer : List Env) (s : Shared) (H : Hp) (vs : List V) (Q : VK) (E : XK) (p : Addr × Obj), sp vs H Q E →
      ∃ t, PSs (L2H.cxH CX P w K mg base N qual (defScope st) f cdv A outer s H E p) (defBody st) t ∧ t { nx := fun _ H' => Q .non H', rt := Q } (L2.start N vs) H) : L2H.FnH P w K mg base CX (k + 1) f fd ps sp := by
  obtain ⟨_, _, _, _, _, _, c, _, _, rfl, found, isC⟩ := F.ex
  exact L2H.fn_ofH found isC S hl fun A outer s H vs Q E p _ _ q => body c A outer s H vs Q E p q
end
theorem pmkN_oex {X : Cx} {CX : CXT} {x : Str} {e : Expr} {es : List Expr} {ta : TA} {p pos : Pos} {C fI : Addr} {k : Nat} {fd : FuncData} {ps : List Str} {sp : Sp} (T : OexC X.K C) (ini : PySem.W.findIn X.K (.ref C) "__init__" = some (some (.ref fI))) (fn : PySem.W.typeIn X.K (.ref fI) = some (.type "function"))
    (F1 : FnOk X.prog X.w X.K X.mg X.base CX k fI fd ps sp) (room : Room (k + 1) X.A) (bnd : Binds X.K fd ps []) (px : Passes CX X (fun _ _ _ => False)) (gl : Gl X x) (m : X.mg x = some (.ref C)) (arg : PA X (e :: es) ta)
    (h1 : (x == ("__debug__" : Str)) = false := by decide) (h2 : starEach (e :: es) X.env = (false, eval e X.env) :: starEach es X.env := by rfl) (h3 : (backTo pos (starEach es X.env)).any (·.1) = false := by rfl) : L2N.PMk X (.Call (.Name x p) (e :: es) [] pos) (tMkO C sp [] ta) := by
  intro pins s σ H Q I want
  obtain ⟨_, _, _, _, bm, _, _, _, _, _, _, _, _, _, _, inC, hbm⟩ := T.cls
  apply wpAny_Call_Name_kw
  refine ld_glob I gl m ?_ h1
  refine PySem.W.callWith_K (h₀ := X.base) I.ok.mod.kin T.kC ?_ h2 h3
  refine thn (arg.run pos pins s σ H _ I want) fun us s1 got => ?_
  obtain ⟨vs, H1, I1, rv, few, q1⟩ := got
  refine ⟨I1.kIn, ?_⟩
  obtain ⟨hp, gs, dr, tk, os⟩ := s1
  let a : Addr := hp.objs.size + 1
  have le : hp.objs.size ≤ a := Nat.le_succ _
  have fresh : H1 a = none := I1.hok.fresh le
  have q2 := q1 a fresh
  rw [List.append_nil] at q2
  let hp2 : Heap := (hp.push (PySem.W.kdv_tup us)).push (PySem.HandSPX.excO C hp.objs.size)
  have kept : ∀ b o, hp.get? b = some o → hp2.get? b = some o := fun b o z => Heap.get?_push_of_some _ (Heap.get?_push_of_some _ z)
  have there : hp2.get? a = some (PySem.HandSPX.excO C hp.objs.size) := by
    show ((hp.push (PySem.W.kdv_tup us)).push (PySem.HandSPX.excO C hp.objs.size)).get? (hp.objs.size + 1) = _
    heap_get
  have I2 : Inv X pins σ (upd H1 a (exo a C none)) ⟨hp2, gs, dr, tk, os⟩ := I1.laid (t' := tk) (a := a) (o := exo a C none) (h' := hp2) kept le (exo_ok there)
  have rv2 : Vals (V.ref a :: vs) (Value.ref a :: us) := .cons rfl rv
  have ln : (Value.ref a :: us ++ []).length = ps.length := by
    have z := rv2.length
    rw [F1.len _ _ _ _ q2] at z
    rw [List.append_nil]
    exact z.symm
  have small : us.length ≤ sizeLine := by
    rw [← Paired.length rv]
    exact Nat.le_trans few (by decide)
  have bd := bnd _ (Value.ref a :: us) I2.kIn ln
  rw [List.append_nil] at bd
  refine wpAny_call (PySem.HandSPX.call_own F.excBase_ValueError (fun Y => PySem.HandSPX.refsVE_contains Y bm hbm) (I1.kIn _ _ inC) (PySem.W.looks_findIn I1.kIn ini) (fun self => PySem.W.bind_fn I1.kIn self fn) small ?_)
  refine codeAny_mono (F1.run _ X.stack _ _ ⟨Value.ref a :: us, []⟩ (Value.ref a :: us) _ _ (fun _ _ _ => False) (room.make C us []) (I2.env0.make C us []) bd rv2 q2) fun r s2 gr => ?_
  cases r with
  | error er => exact px pins σ _ _ er s2 I2 gr
  | ok fl =>
    cases fl with
    | next => exact gr.elim
    | brk => exact gr.elim
    | cont => exact gr.elim
    | ret u =>
      obtain ⟨v, H2, os2, bare, un, hok, ru, ev, d, fs, ea, ed, fd1, q3⟩ := gr
      subst ev
      obtain ⟨h5, g5, d5, t5, o5⟩ := s2
      obtain ⟨_, G, J, kG, ge, hoe, na⟩ := mk_end0 (d2 := d5) (t2 := t5) I1 le kept un hok os2 bare ea ed fd1
      refine ⟨ru, a, _, _, ⟨G, g5, d5, t5, o5⟩, _, .ref C, some d, rfl, J, kG, ge, hoe, ⟨rfl, rfl, fun ws hw => ?_⟩, rfl, rfl, na, rfl, bare, raises_own T.exC T.tyC, q3⟩
      cases hw
      rfl
end
/-! base 2 -/
/-! ### strengths -/
abbrev Pr := Str × Str
def prD (p : Pr) : PyData := .tuple [.str p.1, .str p.2]
def strOf : PyData → Str
  | .str s => s
  | _ => Str.empty
/-- items of a list that may be looked at one by one -/
def Its (K : PySem.W.Frag) (H : Hp) (xs : List V) (ds : List PyData) : Prop := DpAll K H xs ds ∧ ds.length ≤ 2000 ∧ ∀ d ∈ ds, (d.canLay0 = true ∧ d.depth ≤ 60) ∧ ∀ s, d = .str s → s.length ≤ 1000
theorem Its.mono {K : PySem.W.Frag} {H H' : Hp} {xs : List V} {ds : List PyData} (s : Same H H') (h : Its K H xs ds) : Its K H' xs ds := ⟨dpAll_mono s h.1, h.2⟩
theorem Its.sh {K : PySem.W.Frag} {H : Hp} {xs : List V} {ds : List PyData} (h : Its K H xs ds) {d : PyData} (hd : d ∈ ds) : SeqAt.shaped d = true := shaped_iff.mpr ⟨(h.2.2 d hd).1.1, Nat.le_trans (h.2.2 d hd).1.2 (by decide)⟩
theorem Its.vd {K : PySem.W.Frag} {H : Hp} {xs : List V} {ds : List PyData} (h : Its K H xs ds) {i : Nat} {x : V} (hx : xs[i]? = some x) : ∃ d, ds[i]? = some d ∧ d ∈ ds ∧ VD K H x (some d) ∧ Dp K H x d := by
  obtain ⟨d, hd, v⟩ := dpAll_get h.1 hx
  have hm := List.mem_of_getElem? hd
  exact ⟨d, hd, hm, .dat v (h.sh hm) (h.2.2 d hm).2, v⟩
theorem nameO_str {d : PyData} (h : nameO (some d) = true) : ∃ s, d = .str s := by
  cases d with
  | str s => exact ⟨s, rfl⟩
  | _ => cases h
theorem kit_l {K : PySem.W.Frag} (o : Option PyData) : PySem.W.kitOne K (.type (tyO o)) (.type "list") = some (isT "list" o) := by
  have h := tyO_mem o
  unfold isT
  generalize tyO o = nm at h ⊢
  rcases h with rfl | rfl | rfl | rfl | rfl | rfl | rfl
  all_goals exact kit_ty (by decide +kernel)
/-- names one by one: the first that is none (1), or that came before (2) -/
def scanM : List V → List PyData → List Str → Option (Nat × V)
  | x :: xs, d :: ds, seen => if nameO (some d) = true then (if strOf d ∈ seen then some (2, x) else scanM xs ds (seen ++ [strOf d])) else some (1, x)
  | _, _, _ => none
/-- where names have been looked through -/
theorem scan_at : ∀ (xs : List V) (ds : List PyData) (seen : List Str) (i : Nat), xs.length = ds.length → i ≤ ds.length → (∀ j, j < i → ∀ d, ds[j]? = some d → nameO (some d) = true ∧ strOf d ∉ seen ++ (ds.take j).map strOf) →
    scanM xs ds seen = scanM (xs.drop i) (ds.drop i) (seen ++ (ds.take i).map strOf)
  | _, _, seen, 0, _, _, _ => by simp
  | [], [], seen, i + 1, _, h, _ => by simp at h
  | x :: xs, d :: ds, seen, i + 1, hl, hi, h => by
    have h0 := h 0 (Nat.succ_pos i) d rfl
    rw [List.take_zero, List.map_nil, List.append_nil] at h0
    have e : scanM (x :: xs) (d :: ds) seen = scanM xs ds (seen ++ [strOf d]) := by
      show (if _ then (if _ then _ else _) else _) = _
      rw [if_pos h0.1, if_neg h0.2]
    rw [e, scan_at xs ds (seen ++ [strOf d]) i (by simpa using hl) (by simpa using hi) fun j hj d' hd' => ?_]
    · simp
    · have := h (j + 1) (Nat.succ_lt_succ hj) d' hd'
      simpa using this
theorem scan_one {x : V} {xs : List V} {d : PyData} {ds : List PyData} {seen : List Str} : scanM (x :: xs) (d :: ds) seen = if nameO (some d) = true then (if strOf d ∈ seen then some (2, x) else scanM xs ds (seen ++ [strOf d])) else some (1, x) := rfl
/-- a list of names, all different -/
theorem scan_ok : ∀ (ms : List Str) (seen : List Str), (∀ s ∈ ms, nameS s = true) → ms.Nodup → (∀ s ∈ ms, s ∉ seen) → scanM (ms.map V.str) (ms.map PyData.str) seen = none
  | [], _, _, _, _ => rfl
  | s :: r, seen, h1, h2, h3 => by
    show (if _ then (if _ then _ else _) else _) = _
    rw [if_pos (show nameO (some (.str s)) = true from h1 s List.mem_cons_self), if_neg (show strOf (.str s) ∉ seen from h3 s List.mem_cons_self)]
    obtain ⟨n1, n2⟩ := List.nodup_cons.mp h2
    refine scan_ok r (seen ++ [s]) (fun t ht => h1 t (List.mem_cons_of_mem _ ht)) n2 fun t ht hm => ?_
    rcases List.mem_append.mp hm with q | q
    · exact h3 t (List.mem_cons_of_mem _ ht) q
    · rw [List.mem_singleton.mp q] at ht
      exact n1 ht
theorem scan_names {K : PySem.W.Frag} {H : Hp} : ∀ {xs : List V} {ds : List PyData} (seen : List Str), DpAll K H xs ds → scanM xs ds seen = none → ∃ ms : List Str, xs = ms.map V.str ∧ ds = ms.map PyData.str ∧ (∀ s ∈ ms, nameS s = true ∧ s ∉ seen) ∧ ms.Nodup
  | _, _, _, .nil, _ => ⟨[], rfl, rfl, fun s h => (List.not_mem_nil h).elim, List.nodup_nil⟩
  | _, _, seen, .cons (v := v) (d := d) a b, h => by
    rw [scan_one] at h
    by_cases c1 : nameO (some d) = true
    · rw [if_pos c1] at h
      by_cases c2 : strOf d ∈ seen
      · rw [if_pos c2] at h
        cases h
      · rw [if_neg c2] at h
        obtain ⟨s, rfl⟩ := nameO_str c1
        cases a
        obtain ⟨ms, rfl, rfl, k1, k2⟩ := scan_names _ b h
        refine ⟨s :: ms, rfl, rfl, fun t ht => ?_, List.nodup_cons.mpr ⟨fun q => (k1 s q).2 (List.mem_append_right _ List.mem_cons_self), k2⟩⟩
        rcases List.mem_cons.mp ht with rfl | q
        · exact ⟨c1, c2⟩
        · exact ⟨(k1 t q).1, fun z => (k1 t q).2 (List.mem_append_left _ z)⟩
    · rw [if_neg c1] at h
      cases h
def sp_req (K : PySem.W.Frag) (f : Option PyData → Bool) (C : Addr) (fld : Str) : Sp := fun vs H Q E => ∃ (v : V) (o : Option PyData), vs = [v] ∧ VD K H v o ∧ (f o = true → ∀ H', Same H H' → Q .non H') ∧ (f o = false → Rz H E C fld v)
/-- the six classes' fields -/
def fld6 (n : Nat) : Str := if n = 2 ∨ n = 5 then "name" else "value"
def Ex6 (H : Hp) (E : XK) (Cs : Nat → Addr) (r : Nat × V) : Prop := Rz H E (Cs r.1) (fld6 r.1) r.2
/-- modes that are handed in: what is wrong with them, or the modes -/
inductive MArg (K : PySem.W.Frag) (H : Hp) : V → Option (Nat × V) → List Str → Prop
  | nol {v : V} {o : Option PyData} : VD K H v o → isT "list" o = false → MArg K H v (some (0, v)) []
  | bad {l : Addr} {xs : List V} {ds : List PyData} {r : Nat × V} : SqL K H l xs → Its K H xs ds → scanM xs ds [] = some r → MArg K H (.ref l) (some r) []
  | len {l : Addr} {xs : List V} {ds : List PyData} : SqL K H l xs → Its K H xs ds → scanM xs ds [] = none → ¬ (1 ≤ xs.length ∧ xs.length ≤ 8) → MArg K H (.ref l) (some (0, .ref l)) []
  | ok {l : Addr} {ms : List Str} : SqL K H l (ms.map V.str) → (∀ s ∈ ms, nameS s = true) → ms.Nodup → 1 ≤ ms.length ∧ ms.length ≤ 8 → MArg K H (.ref l) none ms
theorem MArg.mono {K : PySem.W.Frag} {H H' : Hp} {v : V} {r : Option (Nat × V)} {ms : List Str} (s : Same H H') (h : MArg K H v r ms) : MArg K H' v r ms := by
  cases h with
  | nol a b => exact .nol (a.mono s) b
  | bad a b c => exact .bad (s.seq a) (b.mono s) c
  | len a b c d => exact .len (s.seq a) (b.mono s) c d
  | ok a b c d => exact .ok (s.seq a) b c d
def sp_rmodes (K : PySem.W.Frag) (Cs : Nat → Addr) : Sp := fun vs H Q E => ∃ (v : V) (r : Option (Nat × V)) (ms : List Str), vs = [v] ∧ MArg K H v r ms ∧ (r = none → ∀ H', Same H H' → Q .non H') ∧ ∀ q, r = some q → Ex6 H E Cs q
theorem nameS_len {s : Str} (h : nameS s = true) : s.length ≤ 8 := by
  unfold nameS at h
  rw [Bool.and_eq_true, Bool.and_eq_true, Bool.and_eq_true, decide_eq_true_iff, decide_eq_true_iff] at h
  omega
theorem nameS_ok {s : Str} (h : nameS s = true) : PyData.strOk s = true := by
  unfold nameS at h
  rw [Bool.and_eq_true, Bool.and_eq_true, Bool.and_eq_true] at h
  refine strOk_iff.mpr fun c hc => ?_
  have := List.all_eq_true.mp h.2.2.2 c hc
  rw [okSign_is, decide_eq_true_iff] at this
  have all : ∀ c ∈ ("abcdefghijklmnopqrstuvwxyz" : Str).cps.toList, c < 0x110000 := by decide +kernel
  exact all c this
theorem its_names {K : PySem.W.Frag} {H : Hp} {ms : List Str} (h : ∀ s ∈ ms, nameS s = true) (l : ms.length ≤ 100) : Its K H (ms.map V.str) (ms.map PyData.str) := by
  refine ⟨dpAll_strs ms, by rw [List.length_map]; exact Nat.le_trans l (by decide), fun d hd => ?_⟩
  obtain ⟨s, hs, rfl⟩ := List.mem_map.mp hd
  refine ⟨⟨?_, by simp [PyData.depth]⟩, fun t e => ?_⟩
  · simp only [PyData.canLay0]
    exact nameS_ok (h s hs)
  · injection e with e
    rw [← e]
    exact Nat.le_trans (nameS_len (h s hs)) (by decide)
theorem scan_here {xs : List V} {ds : List PyData} {i : Nat} {x : V} {d : PyData} (hl : xs.length = ds.length) (hx : xs[i]? = some x) (hd : ds[i]? = some d) (h : ∀ j, j < i → ∀ d, ds[j]? = some d → nameO (some d) = true ∧ strOf d ∉ (ds.take j).map strOf) :
    scanM xs ds [] = if nameO (some d) = true then (if strOf d ∈ (ds.take i).map strOf then some (2, x) else scanM (xs.drop (i + 1)) (ds.drop (i + 1)) ((ds.take i).map strOf ++ [strOf d])) else some (1, x) := by
  have hi := (List.getElem?_eq_some_iff.mp hd).1
  have hi2 := (List.getElem?_eq_some_iff.mp hx).1
  rw [scan_at xs ds [] i hl (Nat.le_of_lt hi) fun j hj d' hd' => by
    have := h j hj d' hd'
    exact ⟨this.1, by simpa using this.2⟩]
  have e1 : xs.drop i = x :: xs.drop (i + 1) := by
    rw [List.drop_eq_getElem_cons hi2]
    congr 1
    exact (List.getElem?_eq_some_iff.mp hx).2
  have e2 : ds.drop i = d :: ds.drop (i + 1) := by
    rw [List.drop_eq_getElem_cons hi]
    congr 1
    exact (List.getElem?_eq_some_iff.mp hd).2
  rw [e1, e2, List.nil_append]
  exact scan_one
theorem scan_end {xs : List V} {ds : List PyData} (hl : xs.length = ds.length) (h : ∀ j, j < ds.length → ∀ d, ds[j]? = some d → nameO (some d) = true ∧ strOf d ∉ (ds.take j).map strOf) : scanM xs ds [] = none := by
  rw [scan_at xs ds [] ds.length hl (Nat.le_refl _) fun j hj d' hd' => by
    have := h j hj d' hd'
    exact ⟨this.1, by simpa using this.2⟩]
  rw [List.drop_length, List.drop_of_length_le (by omega)]
  rfl
theorem MArg.ways {K : PySem.W.Frag} {H : Hp} {v : V} {r : Option (Nat × V)} {ms : List Str} (h : MArg K H v r ms) : (∃ o, VD K H v o ∧ isT "list" o = false ∧ r = some (0, v)) ∨
    ∃ l xs ds, v = .ref l ∧ SqL K H l xs ∧ Its K H xs ds ∧ ((∃ q, r = some q ∧ scanM xs ds [] = some q) ∨ (scanM xs ds [] = none ∧ ((1 ≤ xs.length ∧ xs.length ≤ 8 ∧ r = none) ∨ (¬ (1 ≤ xs.length ∧ xs.length ≤ 8) ∧ r = some (0, v))))) := by
  cases h with
  | nol a b => exact .inl ⟨_, a, b, rfl⟩
  | bad a b c => exact .inr ⟨_, _, _, rfl, a, b, .inl ⟨_, rfl, c⟩⟩
  | len a b c d => exact .inr ⟨_, _, _, rfl, a, b, .inr ⟨c, .inr ⟨d, rfl⟩⟩⟩
  | ok a b c d => exact .inr ⟨_, _, _, rfl, a, its_names b (by omega), .inr ⟨scan_ok _ _ b c fun s _ h => (List.not_mem_nil h).elim, .inl ⟨by rw [List.length_map]; exact d.1, by rw [List.length_map]; exact d.2, rfl⟩⟩⟩
/-- items ahead of i that are names -/
theorem its_take {K : PySem.W.Frag} {H : Hp} {xs : List V} {ds : List PyData} (h : DpAll K H xs ds) (i : Nat) (hn : ∀ j, j < i → ∀ d, ds[j]? = some d → nameO (some d) = true) : xs.take i = ((ds.take i).map strOf).map V.str := by
  have key : ∀ {xs : List V} {ds : List PyData}, DpAll K H xs ds → (∀ d ∈ ds, nameO (some d) = true) → xs = (ds.map strOf).map V.str := fun {xs ds} h => by
    induction xs generalizing ds with
    | nil =>
      cases h
      exact fun _ => rfl
    | cons x r ih =>
      cases h with
      | cons a b =>
        intro hn
        obtain ⟨s, rfl⟩ := nameO_str (hn _ List.mem_cons_self)
        cases a
        rw [ih b fun d hd => hn d (List.mem_cons_of_mem _ hd)]
        rfl
  refine key (dpAll_take i h) fun d hd => ?_
  obtain ⟨j, hj, e⟩ := List.mem_iff_getElem.mp hd
  rw [List.length_take] at hj
  refine hn j (by omega) d ?_
  rw [List.getElem_take] at e
  rw [← e]
  exact List.getElem?_eq_getElem (by omega)
theorem Ex6.back {H H1 : Hp} {E : XK} {Cs : Nat → Addr} {r : Nat × V} (s : Same H H1) (h : Ex6 H E Cs r) : Ex6 H1 E Cs r := Rz.back s h
/-! ### clashes handed in -/
def modeB (ms : List Str) (e : PyData) : Bool := (ms.map PyData.str).any fun z => PyData.eqv z e
/-- items one by one: the first that is no pair (4), or the first of a pair that is no mode (5) -/
inductive ClS (K : PySem.W.Frag) (H : Hp) (ms : List Str) : List V → List PyData → Option (Nat × V) → List Pr → Prop
  | nil : ClS K H ms [] [] none []
  | odd {x : V} {xs : List V} {d : PyData} {ds : List PyData} : Dp K H x d → (isT "tuple" (some d) = false ∨ ∃ es, d = .tuple es ∧ es.length ≠ 2) → ClS K H ms (x :: xs) (d :: ds) (some (4, x)) []
  | one {t : Addr} {y1 y2 : V} {xs : List V} {e1 e2 : PyData} {ds : List PyData} : SqT K H t [y1, y2] → Dp K H y1 e1 → Dp K H y2 e2 → modeB ms e1 = false → ClS K H ms (.ref t :: xs) (.tuple [e1, e2] :: ds) (some (5, y1)) []
  | two {t : Addr} {y1 y2 : V} {xs : List V} {e1 e2 : PyData} {ds : List PyData} : SqT K H t [y1, y2] → Dp K H y1 e1 → Dp K H y2 e2 → modeB ms e1 = true → modeB ms e2 = false → ClS K H ms (.ref t :: xs) (.tuple [e1, e2] :: ds) (some (5, y2)) []
  | ok {t : Addr} {a b : Str} {xs : List V} {ds : List PyData} {r : Option (Nat × V)} {ps : List Pr} : SqT K H t [.str a, .str b] → a ∈ ms → b ∈ ms → ClS K H ms xs ds r ps → ClS K H ms (.ref t :: xs) (prD (a, b) :: ds) r ((a, b) :: ps)
theorem ClS.mono {K : PySem.W.Frag} {H H' : Hp} {ms : List Str} {xs : List V} {ds : List PyData} {r : Option (Nat × V)} {ps : List Pr} (s : Same H H') (h : ClS K H ms xs ds r ps) : ClS K H' ms xs ds r ps := by
  induction h with
  | nil => exact .nil
  | odd a b => exact .odd (dp_mono s a) b
  | one a b c d => exact .one (same_t s a) (dp_mono s b) (dp_mono s c) d
  | two a b c d e => exact .two (same_t s a) (dp_mono s b) (dp_mono s c) d e
  | ok a b c _ ih => exact .ok (same_t s a) b c ih
theorem modeB_iff (ms : List Str) (e : PyData) : modeB ms e = true ↔ ∃ s ∈ ms, e = .str s := by
  unfold modeB
  rw [List.any_eq_true]
  constructor
  · rintro ⟨z, hz, h⟩
    obtain ⟨s, hs, rfl⟩ := List.mem_map.mp hz
    cases e with
    | str t =>
      have : s = t := by simpa [PyData.eqv] using h
      rw [← this]
      exact ⟨s, hs, rfl⟩
    | _ => simp [PyData.eqv] at h
  · rintro ⟨s, hs, rfl⟩
    exact ⟨.str s, List.mem_map.mpr ⟨s, hs, rfl⟩, by simp [PyData.eqv]⟩
/-- every list of data has such an outcome -/
theorem clS_all {K : PySem.W.Frag} {H : Hp} (ms : List Str) : ∀ {xs : List V} {ds : List PyData}, DpAll K H xs ds → ∃ r ps, ClS K H ms xs ds r ps
  | _, _, .nil => ⟨none, [], .nil⟩
  | _, _, .cons (v := v) (d := d) a b => by
    obtain ⟨r, ps, h⟩ := clS_all ms b
    cases e : isT "tuple" (some d) with
    | false => exact ⟨_, _, .odd a (.inl e)⟩
    | true =>
      cases a with
      | tup sq dp =>
        rename_i t ys es
        by_cases l : es.length = 2
        · obtain ⟨y1, y2, e1, e2, rfl, rfl, d1, d2⟩ := dp_two dp ((dpAll_len dp).trans l)
          cases m1 : modeB ms e1 with
          | false => exact ⟨_, _, .one sq d1 d2 m1⟩
          | true =>
            cases m2 : modeB ms e2 with
            | false => exact ⟨_, _, .two sq d1 d2 m1 m2⟩
            | true =>
              obtain ⟨s1, h1, rfl⟩ := (modeB_iff ms e1).mp m1
              obtain ⟨s2, h2, rfl⟩ := (modeB_iff ms e2).mp m2
              cases d1
              cases d2
              exact ⟨_, _, .ok sq h1 h2 h⟩
        · exact ⟨_, _, .odd (.tup sq dp) (.inr ⟨_, rfl, l⟩)⟩
      | _ => cases e
/-- clashes that are handed in with modes: what is wrong with them, or the pairs -/
inductive CArg (K : PySem.W.Frag) (H : Hp) (ms : List Str) : V → Option (Nat × V) → List Pr → Prop
  | nol {v : V} {o : Option PyData} : VD K H v o → isT "list" o = false → CArg K H ms v (some (3, v)) []
  | lst {l : Addr} {xs : List V} {ds : List PyData} {r : Option (Nat × V)} {ps : List Pr} : SqL K H l xs → Its K H xs ds → ClS K H ms xs ds r ps → CArg K H ms (.ref l) r ps
theorem CArg.mono {K : PySem.W.Frag} {H H' : Hp} {ms : List Str} {v : V} {r : Option (Nat × V)} {ps : List Pr} (s : Same H H') (h : CArg K H ms v r ps) : CArg K H' ms v r ps := by
  cases h with
  | nol a b => exact .nol (a.mono s) b
  | lst a b c => exact .lst (s.seq a) (b.mono s) (c.mono s)
def sp_rclash (K : PySem.W.Frag) (Cs : Nat → Addr) : Sp := fun vs H Q E => ∃ (v : V) (l : Addr) (r : Option (Nat × V)) (ms : List Str) (ps : List Pr), vs = [v, .ref l] ∧ SqL K H l (ms.map V.str) ∧ (∀ s ∈ ms, nameS s = true) ∧ ms.length ≤ 8 ∧ CArg K H ms v r ps ∧ (r = none → ∀ H', Same H H' → Q .non H') ∧ ∀ q, r = some q → Ex6 H E Cs q
theorem ClS.ways {K : PySem.W.Frag} {H : Hp} {ms : List Str} {x : V} {xs : List V} {d : PyData} {ds : List PyData} {r : Option (Nat × V)} {ps : List Pr} (h : ClS K H ms (x :: xs) (d :: ds) r ps) :
    (Dp K H x d ∧ (isT "tuple" (some d) = false ∨ ∃ es, d = .tuple es ∧ es.length ≠ 2) ∧ r = some (4, x)) ∨ ∃ t y1 y2 e1 e2, x = .ref t ∧ d = .tuple [e1, e2] ∧ SqT K H t [y1, y2] ∧ Dp K H y1 e1 ∧ Dp K H y2 e2 ∧ (modeB ms e1 = false → r = some (5, y1)) ∧ (modeB ms e1 = true → modeB ms e2 = false → r = some (5, y2)) ∧
      (modeB ms e1 = true → modeB ms e2 = true → ∃ ps', ClS K H ms xs ds r ps') := by
  cases h with
  | odd a b => exact .inl ⟨a, b, rfl⟩
  | one a b c e => exact .inr ⟨_, _, _, _, _, rfl, rfl, a, b, c, (fun _ => rfl), (fun z => by rw [e] at z; cases z), fun z => by rw [e] at z; cases z⟩
  | two a b c e f => exact .inr ⟨_, _, _, _, _, rfl, rfl, a, b, c, (fun z => by rw [e] at z; cases z), (fun _ _ => rfl), fun _ z => by rw [f] at z; cases z⟩
  | ok a b c e =>
    have m1 := (modeB_iff ms (.str _)).mpr ⟨_, b, rfl⟩
    have m2 := (modeB_iff ms (.str _)).mpr ⟨_, c, rfl⟩
    exact .inr ⟨_, _, _, _, _, rfl, rfl, a, .str _, .str _, (fun z => by rw [m1] at z; cases z), (fun _ z => by rw [m2] at z; cases z), fun _ _ => ⟨_, e⟩⟩
theorem drop_cons {α : Type} {xs : List α} {i : Nat} {x : α} (h : xs[i]? = some x) : xs.drop i = x :: xs.drop (i + 1) := by
  have hi := (List.getElem?_eq_some_iff.mp h).1
  rw [List.drop_eq_getElem_cons hi]
  congr 1
  exact (List.getElem?_eq_some_iff.mp h).2
theorem sh_names {ms : List Str} (h : ∀ s ∈ ms, nameS s = true) : SeqAt.shaped (.list (ms.map PyData.str)) = true := shaped_list (n := 0) (by decide) fun d hd => by
  obtain ⟨s, hs, rfl⟩ := List.mem_map.mp hd
  refine ⟨?_, by simp [PyData.depth]⟩
  simp only [PyData.canLay0]
  exact nameS_ok (h s hs)
def adj (ps : List Pr) (a b : Str) : Bool := decide ((a, b) ∈ ps) || decide ((b, a) ∈ ps)
def ag (ms : List Str) (ps : List Pr) (m : Str) : List Str := ms.filter (adj ps m)
theorem eqv_prD (p q : Pr) : PyData.eqv (prD p) (prD q) = decide (p = q) := by
  obtain ⟨a, b⟩ := p
  obtain ⟨c, d⟩ := q
  rw [Bool.eq_iff_iff, decide_eq_true_iff]
  simp [prD, PyData.eqv, PyData.eqvAll, Prod.mk.injEq]
theorem any_prD (ps : List Pr) (p : Pr) : ((ps.map prD).any fun z => PyData.eqv z (prD p)) = decide (p ∈ ps) := by
  rw [Bool.eq_iff_iff, List.any_eq_true, decide_eq_true_iff]
  constructor
  · rintro ⟨z, hz, e⟩
    obtain ⟨q, hq, rfl⟩ := List.mem_map.mp hz
    rw [eqv_prD, decide_eq_true_iff] at e
    rw [← e]
    exact hq
  · exact fun h => ⟨prD p, List.mem_map.mpr ⟨p, h, rfl⟩, by rw [eqv_prD]; exact decide_eq_true rfl⟩
theorem ClS.fine {K : PySem.W.Frag} {H : Hp} {ms : List Str} : ∀ {xs : List V} {ds : List PyData} {ps : List Pr}, ClS K H ms xs ds none ps → ds = ps.map prD ∧ ∀ p ∈ ps, p.1 ∈ ms ∧ p.2 ∈ ms := by
  intro xs ds ps h
  generalize hr : (none : Option (Nat × V)) = r at h
  induction h with
  | nil => exact ⟨rfl, fun p h => (List.not_mem_nil h).elim⟩
  | odd a b => cases hr
  | one a b c d => cases hr
  | two a b c d e => cases hr
  | ok a b c _ ih =>
    obtain ⟨h1, h2⟩ := ih hr
    refine ⟨by rw [h1]; rfl, fun p hp => ?_⟩
    rcases List.mem_cons.mp hp with rfl | q
    · exact ⟨b, c⟩
    · exact h2 p q
def okPs (ms : List Str) (ps : List Pr) : Prop := ps.length ≤ 2000 ∧ ∀ p ∈ ps, p.1 ∈ ms ∧ p.2 ∈ ms
theorem prD_can {ms : List Str} (hm : ∀ s ∈ ms, nameS s = true) {p : Pr} (h : p.1 ∈ ms ∧ p.2 ∈ ms) : (prD p).canLay0 = true ∧ (prD p).depth ≤ 1 := by
  constructor
  · simp only [prD, PyData.canLay0]
    refine canAll_mem.mpr fun d hd => ?_
    simp only [List.mem_cons, List.not_mem_nil, or_false] at hd
    rcases hd with rfl | rfl
    · simp only [PyData.canLay0]
      exact nameS_ok (hm _ h.1)
    · simp only [PyData.canLay0]
      exact nameS_ok (hm _ h.2)
  · have : PyData.depthAll [PyData.str p.1, .str p.2] ≤ 0 := depthAll_le fun d hd => by
      simp only [List.mem_cons, List.not_mem_nil, or_false] at hd
      rcases hd with rfl | rfl
      all_goals simp [PyData.depth]
    simp only [prD, PyData.depth]
    omega
theorem prs_sh {ms : List Str} (hm : ∀ s ∈ ms, nameS s = true) {ps : List Pr} (h : ∀ p ∈ ps, p.1 ∈ ms ∧ p.2 ∈ ms) : SeqAt.shaped (.list (ps.map prD)) = true := shaped_list (n := 1) (by decide) fun d hd => by
  obtain ⟨p, hp, rfl⟩ := List.mem_map.mp hd
  exact prD_can hm (h p hp)
def sp_cmodes (K : PySem.W.Frag) : Sp := fun vs H Q _ => ∃ (m : Str) (l lc : Addr) (ms : List Str) (ps : List Pr) (xs : List V), vs = [.str m, .ref l, .ref lc] ∧ SqL K H l (ms.map V.str) ∧ (∀ s ∈ ms, nameS s = true) ∧ ms.length ≤ 8 ∧ m ∈ ms ∧ SqL K H lc xs ∧ DpAll K H xs (ps.map prD) ∧ okPs ms ps ∧
  ∀ H' q, Same H H' → H q = none → H' q = some (.lst ((ag ms ps m).map V.str)) → Q (.ref q) H'
/-! ### objects -/
def strsL (ss : List Str) : PyData := .list (ss.map PyData.str)
def fsS (l d : Addr) : List (Str × V) := [("_modes", .ref l), ("_against", .ref d)]
/-- strengths stand at x: their modes, and what clashes with each of them -/
def StrAt (K : PySem.W.Frag) (C : Addr) (H : Hp) (x : Addr) (ms : List Str) (f : Str → List Str) : Prop := ∃ (dx l d : Addr) (kvs : List (Key × V)), H x = some (.ins C dx (fsS l d)) ∧ H l = some (.lst (ms.map V.str)) ∧ H d = some (.dK kvs) ∧ Ents K H kvs (ms.map fun m => (.inr m, strsL (f m)))
theorem StrAt.mono {K : PySem.W.Frag} {C : Addr} {H H' : Hp} {x : Addr} {ms : List Str} {f : Str → List Str} (s : Same H H') (h : StrAt K C H x ms f) : StrAt K C H' x ms f := by
  obtain ⟨dx, l, d, kvs, h1, h2, h3, h4⟩ := h
  exact ⟨dx, l, d, kvs, s _ _ h1, s _ _ h2, s _ _ h3, h4.mono s⟩
/-- strengths stand at x, all of them but x itself where nothing was in H0 -/
def StrOff (K : PySem.W.Frag) (C : Addr) (H0 H : Hp) (x : Addr) (ms : List Str) (f : Str → List Str) : Prop := ∀ G : Hp, (∀ b u, (H0 b = none ∨ b = x) → H b = some u → G b = some u) → StrAt K C G x ms f
theorem StrOff.at_ {K : PySem.W.Frag} {C : Addr} {H0 H : Hp} {x : Addr} {ms : List Str} {f : Str → List Str} (h : StrOff K C H0 H x ms f) : StrAt K C H x ms f := h H fun _ _ _ e => e
def offH (H H' : Hp) : Hp := fun b => if (H b).isNone = true then H' b else none
theorem offH_some {H H' : Hp} {b : Addr} {u : HO} (e : offH H H' b = some u) : H b = none ∧ H' b = some u := by
  unfold offH at e
  split at e
  · exact ⟨Option.isNone_iff_eq_none.mp (by assumption), e⟩
  · cases e
theorem offH_of {H H' : Hp} {b : Addr} (h : H b = none) : offH H H' b = H' b := by
  unfold offH
  rw [h]
  rfl
theorem offH_mono {H H1 H2 : Hp} (s : Same H1 H2) : Same (offH H H1) (offH H H2) := fun b u e => by
  obtain ⟨h1, h2⟩ := offH_some e
  rw [offH_of h1]
  exact s _ _ h2
theorem offH_upd {H H1 : Hp} {x : Addr} {o : HO} : Same (but (offH H H1) x) (but (offH H (upd H1 x o)) x) := fun b u e => by
  by_cases h : b = x
  · rw [h, but_same] at e
    cases e
  · rw [but_ne h] at e ⊢
    obtain ⟨h1, h2⟩ := offH_some e
    rw [offH_of h1, upd_ne h]
    exact h2
def sp_sinit (K : PySem.W.Frag) (C : Addr) (Cs : Nat → Addr) : Sp := fun vs H Q E => ∃ (x dx : Addr) (v1 v2 : V) (r1 : Option (Nat × V)) (ms : List Str), vs = [.ref x, v1, v2] ∧ H x = some (.ins C dx []) ∧ MArg K (but H x) v1 r1 ms ∧ (∀ q, r1 = some q → Ex6 H E Cs q) ∧
  (r1 = none → ∃ (r2 : Option (Nat × V)) (ps : List Pr), CArg K (but H x) ms v2 r2 ps ∧ (∀ q, r2 = some q → Ex6 H E Cs q) ∧ (r2 = none → ∀ H', (∀ b o, H b = some o → b ≠ x → H' b = some o) → StrOff K C H H' x ms (ag ms ps) → Q .non H'))
theorem fsS_eq (l d : Addr) : putF "_against" (.ref d) (putF "_modes" (.ref l) []) = fsS l d := by
  show (if ("_modes" : Str) = "_against" then _ else _) = _
  rw [if_neg (by decide +kernel)]
  rfl
theorem fsS_modes (l d : Addr) : (fsS l d).lookup ("_modes" : Str) = some (.ref l) := by simp [fsS, List.lookup]
theorem fsS_against (l d : Addr) : (fsS l d).lookup ("_against" : Str) = some (.ref d) := by
  have e : (("_against" : Str) == ("_modes" : Str)) = false := by decide +kernel
  simp [fsS, List.lookup, e]
theorem ag_len (ms : List Str) (ps : List Pr) (m : Str) : (ag ms ps m).length ≤ ms.length := List.length_filter_le _ _
theorem strsL_sh {ss : List Str} (h : ∀ s ∈ ss, nameS s = true) : SeqAt.shaped (strsL ss) = true := sh_names h
theorem Ents.snoc {K : PySem.W.Frag} {H : Hp} {ks : List (Key × V)} {ds : List (Key × PyData)} (h : Ents K H ks ds) {k : Key} {v : V} {d : PyData} (a : Dp K H v d) (b : SeqAt.shaped d = true) : Ents K H (ks ++ [(k, v)]) (ds ++ [(k, d)]) := by
  induction h with
  | nil => exact .cons a b .nil
  | cons p q _ ih => exact .cons p q ih
theorem Ents.keys {K : PySem.W.Frag} {H : Hp} {ks : List (Key × V)} {ds : List (Key × PyData)} (h : Ents K H ks ds) {k : Key} (hn : ∀ e ∈ ds, e.1 ≠ k) : valV ks k = none := by
  induction h with
  | nil => rfl
  | @cons j v d r rd a b c ih => rw [valV_neg (p := (j, v)) (hn (j, d) List.mem_cons_self)]; exact ih fun e he => hn e (List.mem_cons_of_mem _ he)
theorem Ents.back {K : PySem.W.Frag} {H H' : Hp} {ks : List (Key × V)} {ds : List (Key × PyData)} (h : Ents K H ks ds) (s : Same H H') : Ents K H' ks ds := h.mono s
theorem but_le (H : Hp) (x : Addr) : Same (but H x) H := fun b u e => by
  by_cases h : b = x
  · rw [h, but_same] at e
    cases e
  · rw [but_ne h] at e
    exact e
theorem but_of {H H' : Hp} {x : Addr} (s : Same H H') : Same (but H x) (but H' x) := fun b u e => by
  by_cases h : b = x
  · rw [h, but_same] at e
    cases e
  · rw [but_ne h] at e ⊢
    exact s _ _ e
theorem but_upd (H : Hp) (x : Addr) (o : HO) : Same (but H x) (but (upd H x o) x) := fun b u e => by
  by_cases h : b = x
  · rw [h, but_same] at e
    cases e
  · rw [but_ne h] at e ⊢
    rw [upd_ne h]
    exact e
theorem but_mut {H H' : Hp} {x : Addr} {o : HO} (s : Same (but H x) H') : Same (but H x) (upd H' x o) := fun b u e => by
  by_cases h : b = x
  · rw [h, but_same] at e
    cases e
  · rw [upd_ne h]
    exact s _ _ e
theorem keys_ne {ms : List Str} (nd : ms.Nodup) {i : Nat} {m : Str} (h : ms[i]? = some m) {f : Str → List Str} : ∀ e ∈ (ms.take i).map fun m => ((.inr m : Key), strsL (f m)), e.1 ≠ .inr m := by
  intro e he
  obtain ⟨a, ha, rfl⟩ := List.mem_map.mp he
  intro z
  have z : a = m := by injection z
  subst z
  obtain ⟨j, hj, e⟩ := List.mem_iff_getElem.mp ha
  rw [List.length_take] at hj
  rw [List.getElem_take] at e
  obtain ⟨hi, e2⟩ := List.getElem?_eq_some_iff.mp h
  have := (List.pairwise_iff_getElem.mp nd) j i (by omega) hi (by omega)
  exact this (e.trans e2.symm)
theorem dpAll_strs_of {K : PySem.W.Frag} {H : Hp} : ∀ {xs : List V} {ss : List Str}, DpAll K H xs (ss.map PyData.str) → xs = ss.map V.str
  | _, [], .nil => rfl
  | _, s :: r, .cons a b => by
    cases a
    rw [dpAll_strs_of b]
    rfl
theorem dp_strsL {K : PySem.W.Frag} {H : Hp} {v : V} {ss : List Str} (h : Dp K H v (strsL ss)) : ∃ a, v = .ref a ∧ SqL K H a (ss.map V.str) := by
  cases h with
  | lst h a =>
    rw [dpAll_strs_of a] at h
    exact ⟨_, rfl, h⟩
theorem findD_map (f : Str → List Str) {m : Str} : ∀ {ms : List Str}, m ∈ ms → findD (ms.map fun m => ((.inr m : Key), strsL (f m))) (.inr m) = some (strsL (f m))
  | a :: r, h => by
    show (if (.inr a : Key) = .inr m then _ else _) = _
    by_cases e : a = m
    · rw [if_pos (by rw [e]), e]
    · rw [if_neg fun z => e (by injection z)]
      rcases List.mem_cons.mp h with q | q
      · exact absurd q.symm e
      · exact findD_map f q
/-- what stands at a mode -/
theorem StrAt.look {K : PySem.W.Frag} {H : Hp} {kvs : List (Key × V)} {ms : List Str} {f : Str → List Str} (en : Ents K H kvs (ms.map fun m => (.inr m, strsL (f m)))) {m : Str} (hm : m ∈ ms) : ∃ a, valV kvs (.inr m) = some (.ref a) ∧ SqL K H a ((f m).map V.str) := by
  rcases en.at_ (.inr m) with ⟨_, e⟩ | ⟨v, d, e1, e2, dv, _⟩
  · rw [findD_map f hm] at e
    cases e
  · rw [findD_map f hm] at e2
    injection e2 with e2
    subst e2
    obtain ⟨a, rfl, h⟩ := dp_strsL dv
    exact ⟨a, e1, h⟩
def sp_smodes (K : PySem.W.Frag) (C : Addr) : Sp := fun vs H Q _ => ∃ (x : Addr) (ms : List Str) (f : Str → List Str), vs = [.ref x] ∧ StrAt K C H x ms f ∧ ∀ H' q, Same H H' → H q = none → H' q = some (.lst (ms.map V.str)) → Q (.ref q) H'
/-- the pairs with the first of some modes -/
def outP (f : Str → List Str) : List Str → List Pr
  | [] => []
  | m :: r => ((m :: r).filter fun o => decide (o ∈ f m)).map fun o => (m, o)
def prsA (f : Str → List Str) (ms : List Str) (i : Nat) : List Pr := ((List.range i).map fun j => outP f (ms.drop j)).flatten
def prsOf (f : Str → List Str) (ms : List Str) : List Pr := prsA f ms ms.length
theorem prsA_succ (f : Str → List Str) (ms : List Str) (i : Nat) : prsA f ms (i + 1) = prsA f ms i ++ outP f (ms.drop i) := by
  unfold prsA
  rw [List.range_succ, List.map_append, List.flatten_append]
  simp
theorem outP_at {f : Str → List Str} {ms : List Str} {i : Nat} {m : Str} (h : ms[i]? = some m) : outP f (ms.drop i) = ((ms.drop i).filter fun o => decide (o ∈ f m)).map fun o => (m, o) := by
  rw [drop_cons h]
  rfl
theorem prsA_len (f : Str → List Str) (ms : List Str) : ∀ i, (prsA f ms i).length ≤ i * ms.length
  | 0 => Nat.zero_le _
  | i + 1 => by
    have ih := prsA_len f ms i
    have : (outP f (ms.drop i)).length ≤ ms.length := by
      cases h : ms.drop i with
      | nil => exact Nat.zero_le _
      | cons m r =>
        show (((m :: r).filter _).map _).length ≤ _
        rw [List.length_map, ← h]
        exact Nat.le_trans (List.length_filter_le _ _) (by rw [List.length_drop]; omega)
    rw [prsA_succ, List.length_append, Nat.succ_mul]
    omega
def sp_sclash (K : PySem.W.Frag) (C : Addr) : Sp := fun vs H Q _ => ∃ (x : Addr) (ms : List Str) (f : Str → List Str), vs = [.ref x] ∧ StrAt K C H x ms f ∧ ms.length ≤ 9 ∧ ∀ H' q xs, Same H H' → H q = none → H' q = some (.lst xs) → DpAll K (but H' q) xs ((prsOf f ms).map prD) → Q (.ref q) H'
def eqStr (ms : List Str) (f : Str → List Str) (ms2 : List Str) (f2 : Str → List Str) : Bool := decide (ms = ms2) && ms.all fun m => decide (f m = f2 m)
theorem eqvAll_strs2 : ∀ (a b : List Str), PyData.eqvAll (a.map .str) (b.map .str) = decide (a = b)
  | [], [] => by simp [PyData.eqvAll]
  | [], _ :: _ => by simp [PyData.eqvAll]
  | _ :: _, [] => by simp [PyData.eqvAll]
  | x :: a, y :: b => by
    have ih := eqvAll_strs2 a b
    simp only [List.map_cons, PyData.eqvAll, ih, PyData.eqv]
    rw [Bool.eq_iff_iff]
    simp
theorem eqv_strsL (a b : List Str) : PyData.eqv (strsL a) (strsL b) = decide (a = b) := by
  have := eqvAll_strs2 a b
  simpa [strsL, PyData.eqv] using this
theorem ents_eq (ms : List Str) (f f2 : Str → List Str) : entsEq (ms.map fun m => ((.inr m : Key), strsL (f m))) (ms.map fun m => (.inr m, strsL (f2 m))) = ms.all fun m => decide (f m = f2 m) := by
  unfold entsEq
  rw [Bool.eq_iff_iff, List.all_eq_true, List.all_eq_true]
  constructor
  · intro h m hm
    have := h _ (List.mem_map.mpr ⟨m, hm, rfl⟩)
    rw [findD_map f2 hm] at this
    have this : PyData.eqv (strsL (f m)) (strsL (f2 m)) = true := this
    rw [eqv_strsL] at this
    exact this
  · intro h p hp
    obtain ⟨m, hm, rfl⟩ := List.mem_map.mp hp
    rw [findD_map f2 hm]
    show PyData.eqv (strsL (f m)) (strsL (f2 m)) = true
    rw [eqv_strsL]
    exact h m hm
def sp_seq (K : PySem.W.Frag) (C : Addr) : Sp := fun vs H Q _ => ∃ (x : Addr) (y : V) (ms : List Str) (f : Str → List Str), vs = [.ref x, y] ∧ StrAt K C H x ms f ∧ (∀ s ∈ ms, nameS s = true) ∧
  ((∃ t, TyX K H y (.type t) ∧ PySem.W.kitOne K (.type t) (.ref C) = some false ∧ Q (.bl false) H) ∨ ∃ (z : Addr) (ms2 : List Str) (f2 : Str → List Str), y = .ref z ∧ StrAt K C H z ms2 f2 ∧ (∀ s ∈ ms2, nameS s = true) ∧ Q (.bl (eqStr ms f ms2 f2)) H)
def prT (p : Pr) : Str := ((Str.empty ++ p.1) ++ ("!" : Str)) ++ p.2
def textM (ms : List Str) (ps : List Pr) : Str := Txt.join ": " ((([ms, ps.map prT] : List (List Str)).filter fun ws => decide (0 < ws.length)).map fun ws => Txt.join " " ws)
def sp_sstr (K : PySem.W.Frag) (C : Addr) : Sp := fun vs H Q _ => ∃ (x : Addr) (ms : List Str) (f : Str → List Str), vs = [.ref x] ∧ StrAt K C H x ms f ∧ (∀ s ∈ ms, nameS s = true) ∧ ms.length ≤ 9 ∧ ∀ H', Same H H' → Q (.str (textM ms (prsOf f ms))) H'
theorem dpAll_snoc {K : PySem.W.Frag} {H : Hp} {xs : List V} {ds : List PyData} {x : V} {d : PyData} (h : DpAll K H xs ds) (a : Dp K H x d) : DpAll K H (xs ++ [x]) (ds ++ [d]) := dpAll_app h (.cons a .nil)
theorem filt_take {f : Str → Bool} {ms : List Str} {j : Nat} {o : Str} (h : ms[j]? = some o) : (ms.take (j + 1)).filter f = (ms.take j).filter f ++ if f o = true then [o] else [] := by
  rw [List.take_add_one, h, List.filter_append]
  congr 1
  cases e : f o <;> simp [e]
theorem mem_outP {f : Str → List Str} {l : List Str} {p : Pr} (h : p ∈ outP f l) : ∃ m r, l = m :: r ∧ p.1 = m ∧ p.2 ∈ l ∧ p.2 ∈ f m := by
  cases l with
  | nil => cases h
  | cons m r =>
    obtain ⟨o, ho, rfl⟩ := List.mem_map.mp (show p ∈ ((m :: r).filter _).map _ from h)
    exact ⟨m, r, rfl, rfl, (List.mem_filter.mp ho).1, of_decide_eq_true (List.mem_filter.mp ho).2⟩
theorem mem_prsOf {f : Str → List Str} {ms : List Str} {p : Pr} (h : p ∈ prsOf f ms) : p.1 ∈ ms ∧ p.2 ∈ ms := by
  obtain ⟨l, hl, hp⟩ := List.mem_flatten.mp h
  obtain ⟨j, _, rfl⟩ := List.mem_map.mp hl
  obtain ⟨m, r, e, e1, e2, _⟩ := mem_outP hp
  refine ⟨?_, List.mem_of_mem_drop e2⟩
  rw [e1]
  exact List.mem_of_mem_drop (i := j) (by rw [e]; exact List.mem_cons_self)
theorem joinL_len : ∀ (sep : List Nat) (ps : List (List Nat)), (TL.joinL sep ps).length ≤ (ps.map List.length).sum + ps.length * sep.length
  | sep, [] => by simp [TL.joinL]
  | sep, [p] => by simp [TL.joinL]
  | sep, p :: q :: r => by
    have ih := joinL_len sep (q :: r)
    simp only [TL.joinL, List.map_cons, List.sum_cons, List.length_cons, List.length_append, Nat.add_mul, Nat.one_mul] at ih ⊢
    omega
theorem join_len (a : Str) (ys : List Str) : (Txt.join a ys).length ≤ (ys.map (·.length)).sum + ys.length * a.length := by
  have e : TL.tl (Txt.join a ys) = TL.joinL (TL.tl a) (ys.map TL.tl) := by rw [TL.join_eq, TL.tl_join]
  have h1 : (Txt.join a ys).length = (TL.tl (Txt.join a ys)).length := by simp [TL.tl, Str.length]
  have h2 := joinL_len (TL.tl a) (ys.map TL.tl)
  rw [h1, e]
  have h3 : (TL.tl a).length = a.length := by simp [TL.tl, Str.length]
  have h4 : (ys.map TL.tl).map List.length = ys.map (·.length) := by
    rw [List.map_map]
    refine List.map_congr_left fun y _ => ?_
    simp [TL.tl, Str.length]
  rw [h3, h4, List.length_map] at h2
  exact h2
theorem join_le {a : Str} {ys : List Str} {n m : Nat} (h : ∀ y ∈ ys, y.length ≤ n) (hl : ys.length ≤ m) (ha : a.length ≤ 2) : (ys.map (·.length)).sum + ys.length * a.length ≤ m * n + m * 2 := by
  have h1 := sum_le ys n h
  have h2 : ys.length * n ≤ m * n := Nat.mul_le_mul_right _ hl
  have h3 : ys.length * a.length ≤ m * 2 := Nat.mul_le_mul hl ha
  omega
theorem emp_app (a : Str) : Str.empty ++ a = a := TL.ext_tl (by rw [TL.tl_append]; rfl)
theorem fsS_no {l d : Addr} {m : Str} (h1 : (m == ("_modes" : Str)) = false) (h2 : (m == ("_against" : Str)) = false) : (fsS l d).lookup m = none := by simp [fsS, List.lookup, h1, h2]
theorem prs_at {K : PySem.W.Frag} {H : Hp} {xs : List V} {ps : List Pr} (h : DpAll K H xs (ps.map prD)) {i : Nat} {x : V} (hx : xs[i]? = some x) : ∃ t p, x = .ref t ∧ ps[i]? = some p ∧ SqT K H t [.str p.1, .str p.2] := by
  obtain ⟨d, hd, dp⟩ := dpAll_get h hx
  rw [List.getElem?_map] at hd
  obtain ⟨p, hp, rfl⟩ := Option.map_eq_some_iff.mp hd
  cases dp with
  | tup a b =>
    have e := dpAll_strs_of (ss := [p.1, p.2]) b
    rw [e] at a
    exact ⟨_, p, rfl, hp, a⟩
/-! ### strengths drawn, and what the top tells of them -/
theorem less_ok {G G1 H' : Hp} {p l : Addr} {n : Nat} (s : Same G G1) (b : BoxIn G1 H' p n) (h : G l = none) : Same G (but G1 l) ∧ BoxIn (but G1 l) H' p n := by
  refine ⟨fun x u e => ?_, ⟨fun x u e => ?_, ?_, b.box⟩⟩
  · rw [but_ne (ne_of_none e h)]
    exact s _ _ e
  · by_cases hx : x = l
    · rw [hx, but_same] at e
      cases e
    · rw [but_ne hx] at e
      exact b.same _ _ e
  · by_cases hx : p = l
    · rw [hx, but_same]
    · rw [but_ne hx]
      exact b.free
theorem ixN_nat {n : Nat} {z : Int} (h0 : 0 ≤ z) (h1 : z < n) : ixN n z = some z.toNat := by
  unfold ixN
  rw [if_pos h0, if_pos (by omega)]
theorem last_at {ys : List V} (h : ys ≠ []) : atI ys (-1) = some (ys.getLast h) := by
  have l : 0 < ys.length := List.length_pos_iff.mpr h
  unfold atI ixN
  have e : ((-1 : Int) + (ys.length : Int)).toNat = ys.length - 1 := by omega
  rw [if_neg (by decide), if_pos (by omega)]
  show ys[((-1 : Int) + (ys.length : Int)).toNat]? = _
  rw [e, ← List.getLast?_eq_getElem?, List.getLast?_eq_getLast h]
def Model (K : PySem.W.Frag) (H : Hp) (m l1 l2 : Addr) (ms : List Str) (ps : List Pr) : Prop := SqL K H m [.ref l1, .ref l2] ∧ SqL K H l1 (ms.map V.str) ∧ ∃ xs, SqL K H l2 xs ∧ DpAll K H xs (ps.map prD)
theorem Model.mono {K : PySem.W.Frag} {H H' : Hp} {m l1 l2 : Addr} {ms : List Str} {ps : List Pr} (s : Same H H') (h : Model K H m l1 l2 ms ps) : Model K H' m l1 l2 ms ps := by
  obtain ⟨a, b, xs, c, d⟩ := h
  exact ⟨s.seq a, s.seq b, xs, s.seq c, dpAll_mono s d⟩
def sp_lmodes (K : PySem.W.Frag) : Sp := fun vs H Q _ => ∃ (H0 : Hp) (p : Addr) (n : Nat), vs = [.ref p, .int 8] ∧ BoxIn H0 H p n ∧ n + 200 < 1000000 ∧
  ∀ (H1 H' : Hp) (m l1 l2 : Addr) (ms : List Str) (ps : List Pr) (xs : List V), Same H0 H1 → BoxIn H1 H' p (n + 200) → H1 m = some (.lst [.ref l1, .ref l2]) → H1 l1 = some (.lst (ms.map V.str)) → H1 l2 = some (.lst xs) → DpAll K H1 xs (ps.map prD) → (∀ s ∈ ms, nameS s = true ∧ s ≠ ("pqz" : Str)) → ms.Nodup → 1 ≤ ms.length → ms.length ≤ 8 → okPs ms ps → ps.length ≤ 64 → Q (.ref m) H'
def sp_lagainst (K : PySem.W.Frag) : Sp := fun vs H Q _ => ∃ (m l1 l2 : Addr) (a : Str) (ms : List Str) (ps : List Pr), vs = [.ref m, .str a] ∧ Model K H m l1 l2 ms ps ∧ (∀ s ∈ ms, nameS s = true) ∧ ms.length ≤ 8 ∧ a ∈ ms ∧ okPs ms ps ∧
  ∀ H' q, Same H H' → H q = none → H' q = some (.lst ((ag ms ps a).map V.str)) → Q (.ref q) H'
def sp_lpairs (K : PySem.W.Frag) : Sp := fun vs H Q _ => ∃ (m l1 l2 : Addr) (ms : List Str) (ps : List Pr), vs = [.ref m] ∧ Model K H m l1 l2 ms ps ∧ (∀ s ∈ ms, nameS s = true) ∧ ms.length ≤ 8 ∧ okPs ms ps ∧
  ∀ H' q xs, Same H H' → H q = none → H' q = some (.lst xs) → DpAll K H' xs ((prsOf (ag ms ps) ms).map prD) → Q (.ref q) H'
def wd6 : Nat → Str
  | 0 => "modes"
  | 1 => "name"
  | 2 => "twice"
  | 3 => "strengths"
  | 4 => "clash"
  | _ => "mode"
/-- modes and clashes handed in: what is wrong with them, or what they are -/
inductive Both (K : PySem.W.Frag) (H : Hp) : V → V → Option (Nat × V) → List Str → List Pr → Prop
  | bad {v1 v2 : V} {q : Nat × V} {ms : List Str} : MArg K H v1 (some q) ms → Both K H v1 v2 (some q) [] []
  | go {v1 v2 : V} {r : Option (Nat × V)} {ms : List Str} {ps : List Pr} : MArg K H v1 none ms → CArg K H ms v2 r ps → Both K H v1 v2 r ms ps
theorem Both.mono {K : PySem.W.Frag} {H H' : Hp} {v1 v2 : V} {r : Option (Nat × V)} {ms : List Str} {ps : List Pr} (s : Same H H') (h : Both K H v1 v2 r ms ps) : Both K H' v1 v2 r ms ps := by
  cases h with
  | bad a => exact .bad (a.mono s)
  | go a b => exact .go (a.mono s) (b.mono s)
theorem Both.split {K : PySem.W.Frag} {H : Hp} {v1 v2 : V} {r : Option (Nat × V)} {ms : List Str} {ps : List Pr} (h : Both K H v1 v2 r ms ps) : ∃ r1 ms1, MArg K H v1 r1 ms1 ∧ (∀ q, r1 = some q → r = some q) ∧ (r1 = none → ms1 = ms ∧ CArg K H ms v2 r ps) := by
  cases h with
  | bad a => exact ⟨_, _, a, fun q e => e, fun e => nomatch e⟩
  | go a b => exact ⟨_, _, a, (fun q e => nomatch e), fun _ => ⟨rfl, b⟩⟩
def madeD (ms : List Str) (ps : List Pr) : PyData := .list [.str "made", strsL ms, .list ((prsOf (ag ms ps) ms).map prD)]
def Out (K : PySem.W.Frag) (H : Hp) (Q : VK) (r : Option (Nat × V)) (ms : List Str) (ps : List Pr) : Prop := (∀ n v, r = some (n, v) → ∀ t H', Same H H' → H t = none → H' t = some (.lst [.str (wd6 n), v]) → Q (.ref t) H') ∧
  (r = none → ∀ t H', Same H H' → H t = none → Dp K H' (.ref t) (madeD ms ps) → Q (.ref t) H')
def sp_lout (K : PySem.W.Frag) : Sp := fun vs H Q _ => ∃ (v1 v2 : V) (r : Option (Nat × V)) (ms : List Str) (ps : List Pr), vs = [v1, v2] ∧ Both K H v1 v2 r ms ps ∧ Out K H Q r ms ps
theorem scan_le : ∀ {xs : List V} {ds : List PyData} {seen : List Str} {q : Nat × V}, scanM xs ds seen = some q → q.1 = 1 ∨ q.1 = 2
  | x :: xs, d :: ds, seen, q, h => by
    rw [scan_one] at h
    split at h
    · split at h
      · cases h
        exact .inr rfl
      · exact scan_le h
    · cases h
      exact .inl rfl
theorem ClS.le {K : PySem.W.Frag} {H : Hp} {ms : List Str} {xs : List V} {ds : List PyData} {r : Option (Nat × V)} {ps : List Pr} (h : ClS K H ms xs ds r ps) : ∀ q, r = some q → q.1 = 4 ∨ q.1 = 5 := by
  induction h with
  | nil => intro q e; cases e
  | odd a b => intro q e; cases e; exact .inl rfl
  | one a b c d => intro q e; cases e; exact .inr rfl
  | two a b c d e => intro q e; cases e; exact .inr rfl
  | ok a b c _ ih => exact ih
theorem Both.le {K : PySem.W.Frag} {H : Hp} {v1 v2 : V} {r : Option (Nat × V)} {ms : List Str} {ps : List Pr} (h : Both K H v1 v2 r ms ps) : ∀ q, r = some q → q.1 = 0 ∨ q.1 = 1 ∨ q.1 = 2 ∨ q.1 = 3 ∨ q.1 = 4 ∨ q.1 = 5 := by
  intro q e
  cases h with
  | bad a =>
    cases e
    rcases a.ways with ⟨o, _, _, e⟩ | ⟨l, xs, ds, _, _, _, ⟨q', e, e2⟩ | ⟨_, ⟨_, _, e⟩ | ⟨_, e⟩⟩⟩
    · cases e
      exact .inl rfl
    · cases e
      exact .inr ((scan_le e2).imp id .inl)
    · cases e
    · cases e
      exact .inl rfl
  | go a b =>
    cases b with
    | nol a b =>
      cases e
      exact .inr (.inr (.inr (.inl rfl)))
    | lst a b c => exact .inr (.inr (.inr (.inr (c.le q e))))
/-! ### strengths bent -/
/-- data n deep at most, a text short -/
def GJ (K : PySem.W.Frag) (n : Nat) (H : Hp) (v : V) : Prop := ∃ d, Dp K H v d ∧ (d.canLay0 = true ∧ d.depth ≤ n) ∧ ∀ s, d = .str s → s.length ≤ 1000
theorem GJ.mono {K : PySem.W.Frag} {n : Nat} {H H' : Hp} {v : V} (s : Same H H') (h : GJ K n H v) : GJ K n H' v := by
  obtain ⟨d, a, b⟩ := h
  exact ⟨d, dp_mono s a, b⟩
theorem gj_str {K : PySem.W.Frag} {n : Nat} {H : Hp} {s : Str} (h : sOk 16 s) : GJ K n H (.str s) := ⟨.str s, .str s, ⟨by simp only [PyData.canLay0]; exact h.2, by simp [PyData.depth]⟩, fun t e => by injection e with e; rw [← e]; exact Nat.le_trans h.1 (by decide)⟩
theorem gj_name {K : PySem.W.Frag} {n : Nat} {H : Hp} {s : Str} (h : nameS s = true) : GJ K n H (.str s) := gj_str ⟨Nat.le_trans (nameS_len h) (by decide), nameS_ok h⟩
theorem gj_int {K : PySem.W.Frag} {n : Nat} {H : Hp} (i : Int) : GJ K n H (.int i) := ⟨.int i, .int i, ⟨rfl, by simp [PyData.depth]⟩, fun _ e => nomatch e⟩
theorem gj_non {K : PySem.W.Frag} {n : Nat} {H : Hp} : GJ K n H .non := ⟨.none, .non, ⟨rfl, by simp [PyData.depth]⟩, fun _ e => nomatch e⟩
theorem gj_all {K : PySem.W.Frag} {n : Nat} {H : Hp} {xs : List V} (g : ∀ x ∈ xs, GJ K n H x) : ∃ ds, DpAll K H xs ds ∧ ds.length = xs.length ∧ ∀ d ∈ ds, (d.canLay0 = true ∧ d.depth ≤ n) ∧ ∀ s, d = .str s → s.length ≤ 1000 := by
  induction xs with
  | nil => exact ⟨[], .nil, rfl, fun d h => (List.not_mem_nil h).elim⟩
  | cons y r ih =>
    obtain ⟨ds, i1, i2, i3⟩ := ih fun x hx => g x (List.mem_cons_of_mem _ hx)
    obtain ⟨d, a, b⟩ := g y List.mem_cons_self
    refine ⟨d :: ds, .cons a i1, by simp [i2], fun x hx => ?_⟩
    rcases List.mem_cons.mp hx with rfl | q
    · exact b
    · exact i3 x q
theorem gj_seq {K : PySem.W.Frag} {n : Nat} {H : Hp} {t : Addr} {xs : List V} (g : ∀ x ∈ xs, GJ K n H x) (h : H t = some (.tup xs) ∨ H t = some (.lst xs)) : GJ K (n + 1) H (.ref t) := by
  obtain ⟨ds, i1, _, i3⟩ := gj_all g
  have dl := depthAll_le fun d hd => (i3 d hd).1.2
  have cl := canAll_mem.mpr fun d hd => (i3 d hd).1.1
  rcases h with h | h
  · exact ⟨.tuple ds, .tup (SqT.of h) i1, ⟨by simpa only [PyData.canLay0] using cl, by simp only [PyData.depth]; omega⟩, fun _ e => nomatch e⟩
  · exact ⟨.list ds, .lst (SqL.of h) i1, ⟨by simpa only [PyData.canLay0] using cl, by simp only [PyData.depth]; omega⟩, fun _ e => nomatch e⟩
theorem gj_its {K : PySem.W.Frag} {n : Nat} {H : Hp} {xs : List V} (hn : n ≤ 60) (l : xs.length ≤ 100) (g : ∀ x ∈ xs, GJ K n H x) : ∃ ds, Its K H xs ds := by
  obtain ⟨ds, i1, i2, i3⟩ := gj_all g
  exact ⟨ds, i1, by omega, fun d hd => ⟨⟨(i3 d hd).1.1, Nat.le_trans (i3 d hd).1.2 hn⟩, (i3 d hd).2⟩⟩
/-- what may be handed in as modes or as clashes -/
def AA (K : PySem.W.Frag) (H : Hp) (v : V) : Prop := (∃ o, VD K H v o ∧ isT "list" o = false) ∨ ∃ l xs ds, v = .ref l ∧ SqL K H l xs ∧ Its K H xs ds
theorem AA.mono {K : PySem.W.Frag} {H H' : Hp} {v : V} (s : Same H H') (h : AA K H v) : AA K H' v := by
  rcases h with ⟨o, a, b⟩ | ⟨l, xs, ds, e, a, b⟩
  · exact .inl ⟨o, a.mono s, b⟩
  · exact .inr ⟨l, xs, ds, e, s.seq a, b.mono s⟩
theorem aa_list {K : PySem.W.Frag} {H : Hp} {l : Addr} {xs : List V} (h : H l = some (.lst xs)) (n : xs.length ≤ 100) (g : ∀ x ∈ xs, GJ K 3 H x) : AA K H (.ref l) := by
  obtain ⟨ds, it⟩ := gj_its (by decide) n g
  exact .inr ⟨l, xs, ds, rfl, SqL.of h, it⟩
theorem aa_tup {K : PySem.W.Frag} {H : Hp} {l : Addr} {xs : List V} (h : H l = some (.tup xs)) (g : ∀ x ∈ xs, GJ K 3 H x) : AA K H (.ref l) := by
  obtain ⟨ds, i1, _, i3⟩ := gj_all g
  have dl := depthAll_le fun d hd => (i3 d hd).1.2
  have cl := canAll_mem.mpr fun d hd => (i3 d hd).1.1
  exact .inl ⟨some (.tuple ds), .dat (.tup (SqT.of h) i1) (shaped_iff.mpr ⟨by simpa only [PyData.canLay0] using cl, by simp only [PyData.depth]; omega⟩) (fun _ e => nomatch e), rfl⟩
theorem aa_non {K : PySem.W.Frag} {H : Hp} : AA K H .non := .inl ⟨some .none, .dat .non (by decide +kernel) (fun _ e => nomatch e), rfl⟩
theorem aa_int {K : PySem.W.Frag} {H : Hp} : AA K H (.int 5) := .inl ⟨some (.int 5), .dat (.int 5) (by decide +kernel) (fun _ e => nomatch e), rfl⟩
theorem aa_ab {K : PySem.W.Frag} {H : Hp} : AA K H (.str "ab") := .inl ⟨some (.str "ab"), .dat (.str _) (by decide +kernel) (fun s e => by cases e; decide +kernel), rfl⟩
theorem aa_dic {K : PySem.W.Frag} {H : Hp} {d : Addr} (h : H d = some (.dK [])) : AA K H (.ref d) := .inl ⟨none, .dic h, rfl⟩
theorem both_of {K : PySem.W.Frag} {H : Hp} {v1 v2 : V} (h1 : AA K H v1) (h2 : AA K H v2) : ∃ r ms ps, Both K H v1 v2 r ms ps := by
  rcases h1 with ⟨o, a, b⟩ | ⟨l, xs, ds, rfl, sq, it⟩
  · exact ⟨_, _, _, .bad (.nol a b)⟩
  · cases e : scanM xs ds [] with
    | some q => exact ⟨_, _, _, .bad (.bad sq it e)⟩
    | none =>
      by_cases c : 1 ≤ xs.length ∧ xs.length ≤ 8
      · obtain ⟨ms, rfl, rfl, hn, nd⟩ := scan_names [] it.1 e
        rw [List.length_map] at c
        have m : MArg K H (.ref l) none ms := .ok sq (fun s hs => (hn s hs).1) nd c
        rcases h2 with ⟨o, a, b⟩ | ⟨lc, ys, es, rfl, sc, it2⟩
        · exact ⟨_, _, _, .go m (.nol a b)⟩
        · obtain ⟨r, ps, hc⟩ := clS_all ms it2.1
          exact ⟨_, _, _, .go m (.lst sc it2 hc)⟩
      · exact ⟨_, _, _, .bad (.len sq it e c)⟩
def sp_lbent (K : PySem.W.Frag) : Sp := fun vs H Q _ => ∃ (H0 : Hp) (p m l1 l2 : Addr) (n : Nat) (ms : List Str) (xs : List V) (ps : List Pr), vs = [.ref p, .ref m] ∧ BoxIn H0 H p n ∧ H0 m = some (.lst [.ref l1, .ref l2]) ∧ H0 l1 = some (.lst (ms.map V.str)) ∧ H0 l2 = some (.lst xs) ∧ DpAll K H0 xs (ps.map prD) ∧ (∀ s ∈ ms, nameS s = true) ∧ 1 ≤ ms.length ∧ ms.length ≤ 8 ∧ okPs ms ps ∧ ps.length ≤ 64 ∧ n + 40 < 1000000 ∧
  ∀ (H1 H' : Hp) (t : Addr) (v1 v2 : V), Same H0 H1 → BoxIn H1 H' p (n + 40) → H1 t = some (.lst [v1, v2]) → AA K H1 v1 → AA K H1 v2 → Q (.ref t) H'
theorem gj_prs {K : PySem.W.Frag} {H : Hp} {ms : List Str} (hm : ∀ s ∈ ms, nameS s = true) : ∀ {xs : List V} {ps : List Pr}, DpAll K H xs (ps.map prD) → (∀ p ∈ ps, p.1 ∈ ms ∧ p.2 ∈ ms) → ∀ x ∈ xs, GJ K 3 H x
  | _, [], .nil, _ => fun x h => (List.not_mem_nil h).elim
  | _, p :: r, .cons a b, h => fun x hx => by
    rcases List.mem_cons.mp hx with rfl | q
    · exact ⟨prD p, a, ⟨(prD_can hm (h p List.mem_cons_self)).1, Nat.le_trans (prD_can hm (h p List.mem_cons_self)).2 (by decide)⟩, fun _ e => nomatch e⟩
    · exact gj_prs hm b (fun p hp => h p (List.mem_cons_of_mem _ hp)) x q
/-! ### what tells strengths apart -/
theorem adj_symm (ps : List Pr) (a b : Str) : adj ps a b = adj ps b a := Bool.or_comm _ _
theorem mem_ag {ms : List Str} {ps : List Pr} {a b : Str} (hb : b ∈ ms) : b ∈ ag ms ps a ↔ adj ps a b = true := by
  unfold ag
  rw [List.mem_filter]
  exact ⟨fun h => h.2, fun h => ⟨hb, h⟩⟩
theorem ag_congr {ms : List Str} {ps qs : List Pr} {a : Str} (h : ∀ b ∈ ms, adj ps a b = adj qs a b) : ag ms ps a = ag ms qs a := List.filter_congr h
theorem in_prs {f : Str → List Str} {ms : List Str} {i j : Nat} {a b : Str} (ha : ms[i]? = some a) (hb : ms[j]? = some b) (hij : i ≤ j) : (a, b) ∈ prsOf f ms ↔ b ∈ f a := by
  constructor
  · intro h
    obtain ⟨l, hl, hp⟩ := List.mem_flatten.mp h
    obtain ⟨j, _, rfl⟩ := List.mem_map.mp hl
    obtain ⟨m, r, e, e1, e2, e3⟩ := mem_outP hp
    have e1 : a = m := e1
    subst e1
    exact e3
  · intro h
    refine List.mem_flatten.mpr ⟨outP f (ms.drop i), List.mem_map.mpr ⟨i, List.mem_range.mpr (List.getElem?_eq_some_iff.mp ha).1, rfl⟩, ?_⟩
    rw [outP_at ha]
    refine List.mem_map.mpr ⟨b, List.mem_filter.mpr ⟨?_, decide_eq_true h⟩, rfl⟩
    refine List.mem_iff_getElem?.mpr ⟨j - i, ?_⟩
    rw [List.getElem?_drop, show i + (j - i) = j by omega]
    exact hb
theorem outP_congr {f g : Str → List Str} : ∀ {l : List Str}, (∀ m ∈ l, f m = g m) → outP f l = outP g l
  | [], _ => rfl
  | m :: r, h => by
    show ((m :: r).filter fun o => decide (o ∈ f m)).map _ = ((m :: r).filter fun o => decide (o ∈ g m)).map _
    rw [h m List.mem_cons_self]
theorem prsOf_congr {f g : Str → List Str} {ms : List Str} (h : ∀ m ∈ ms, f m = g m) : prsOf f ms = prsOf g ms := by
  unfold prsOf prsA
  congr 1
  exact List.map_congr_left fun j _ => outP_congr fun m hm => h m (List.mem_of_mem_drop hm)
theorem prs_ag {ms : List Str} {ps qs : List Pr} (h : prsOf (ag ms ps) ms = prsOf (ag ms qs) ms) : ∀ m ∈ ms, ag ms ps m = ag ms qs m := by
  intro a ha
  refine ag_congr fun b hb => ?_
  obtain ⟨i, hi⟩ := List.mem_iff_getElem?.mp ha
  obtain ⟨j, hj⟩ := List.mem_iff_getElem?.mp hb
  rcases Nat.le_total i j with l | l
  · have h1 := in_prs (f := ag ms ps) hi hj l
    have h2 := in_prs (f := ag ms qs) hi hj l
    rw [h, h2, mem_ag hb, mem_ag hb] at h1
    exact Bool.eq_iff_iff.mpr h1.symm
  · have h1 := in_prs (f := ag ms ps) hj hi l
    have h2 := in_prs (f := ag ms qs) hj hi l
    rw [h, h2, mem_ag ha, mem_ag ha] at h1
    rw [adj_symm ps, adj_symm qs]
    exact Bool.eq_iff_iff.mpr h1.symm
theorem eqStr_prs (ms : List Str) (ps qs : List Pr) : eqStr ms (ag ms ps) ms (ag ms qs) = decide (prsOf (ag ms qs) ms = prsOf (ag ms ps) ms) := by
  unfold eqStr
  rw [decide_eq_true (rfl : ms = ms), Bool.true_and, Bool.eq_iff_iff, List.all_eq_true, decide_eq_true_iff]
  constructor
  · intro h
    exact prsOf_congr fun m hm => (of_decide_eq_true (h m hm)).symm
  · intro h m hm
    exact decide_eq_true (prs_ag h m hm).symm
theorem eqStr_of {ms : List Str} {f g : Str → List Str} (h : ∀ m ∈ ms, f m = g m) : eqStr ms f ms g = true := by
  unfold eqStr
  rw [decide_eq_true (rfl : ms = ms), Bool.true_and, List.all_eq_true]
  exact fun m hm => decide_eq_true (h m hm)
theorem eqStr_ne {ms ms2 : List Str} {f g : Str → List Str} (h : ms ≠ ms2) : eqStr ms f ms2 g = false := by
  unfold eqStr
  rw [decide_eq_false h, Bool.false_and]
theorem ag_swap {ms : List Str} {ps qs : List Pr} (h : (ps.map fun p => (p.2, p.1)).Perm qs) (m : Str) : ag ms ps m = ag ms qs m := by
  refine ag_congr fun b _ => ?_
  have key : ∀ x y : Str, (x, y) ∈ qs ↔ (y, x) ∈ ps := fun x y => by
    rw [← h.mem_iff, List.mem_map]
    constructor
    · rintro ⟨p, hp, e⟩
      injection e with e1 e2
      rw [← e1, ← e2]
      exact hp
    · intro hp
      exact ⟨(y, x), hp, rfl⟩
  unfold adj
  rw [decide_eq_decide.mpr (key m b), decide_eq_decide.mpr (key b m), Bool.or_comm]
theorem eqvAll_prs : ∀ (a b : List Pr), PyData.eqvAll (a.map prD) (b.map prD) = decide (a = b)
  | [], [] => by simp [PyData.eqvAll]
  | [], _ :: _ => by simp [PyData.eqvAll]
  | _ :: _, [] => by simp [PyData.eqvAll]
  | x :: a, y :: b => by
    have ih := eqvAll_prs a b
    simp only [List.map_cons, PyData.eqvAll, ih, eqv_prD]
    rw [Bool.eq_iff_iff]
    simp
theorem eqv_prsL (a b : List Pr) : PyData.eqv (.list (a.map prD)) (.list (b.map prD)) = decide (a = b) := by
  have := eqvAll_prs a b
  simpa [PyData.eqv] using this
theorem ends_eq {ms : List Str} (nd : ms.Nodup) {a b : Str} (ha : ms[0]? = some a) (hb : ms[ms.length - 1]? = some b) : (a = b) ↔ ms.length = 1 := by
  obtain ⟨h0, e0⟩ := List.getElem?_eq_some_iff.mp ha
  obtain ⟨h1, e1⟩ := List.getElem?_eq_some_iff.mp hb
  constructor
  · intro e
    by_cases l : 0 < ms.length - 1
    · have := (List.pairwise_iff_getElem.mp nd) 0 (ms.length - 1) h0 h1 l
      rw [e0, e1] at this
      exact absurd e this
    · omega
  · intro l
    have : ms.length - 1 = 0 := by omega
    rw [this, ha] at hb
    injection hb
theorem eq_ends {ms : List Str} (nd : ms.Nodup) {a b : Str} (ha : ms[0]? = some a) (hb : ms[ms.length - 1]? = some b) : eqStr ms (ag ms [(a, a)]) ms (ag ms [(b, b)]) = decide (ms.length = 1) := by
  by_cases e : a = b
  · subst e
    rw [decide_eq_true ((ends_eq nd ha hb).mp rfl)]
    exact eqStr_of fun _ _ => rfl
  · rw [decide_eq_false fun h => e ((ends_eq nd ha hb).mpr h)]
    have am := List.mem_of_getElem? ha
    unfold eqStr
    rw [decide_eq_true (rfl : ms = ms), Bool.true_and]
    refine Bool.eq_false_iff.mpr fun h => ?_
    have := of_decide_eq_true (List.all_eq_true.mp h a am)
    have h1 : a ∈ ag ms [(a, a)] a := (mem_ag am).mpr (by simp [adj])
    rw [this, mem_ag am] at h1
    simp [adj, e] at h1
theorem eq_ends' {ms : List Str} (nd : ms.Nodup) {a b : Str} (ha : ms[0]? = some a) (hb : ms[ms.length - 1]? = some b) : eqStr ms (ag ms [(b, b)]) ms (ag ms [(a, a)]) = decide (ms.length = 1) := by
  rw [← eq_ends nd ha hb]
  unfold eqStr
  congr 1
  rw [Bool.eq_iff_iff, List.all_eq_true, List.all_eq_true]
  exact ⟨fun h m hm => decide_eq_true (of_decide_eq_true (h m hm)).symm, fun h m hm => decide_eq_true (of_decide_eq_true (h m hm)).symm⟩
theorem eq_rev {ms : List Str} (nd : ms.Nodup) (l : 1 ≤ ms.length) (ps : List Pr) : eqStr ms (ag ms ps) ms.reverse (ag ms.reverse ps) = decide (ms.length = 1) := by
  by_cases h : ms.length = 1
  · obtain ⟨a, rfl⟩ := List.length_eq_one_iff.mp h
    rw [decide_eq_true h]
    exact eqStr_of fun _ _ => rfl
  · rw [decide_eq_false h]
    refine eqStr_ne fun e => ?_
    have h0 : ms[0]? = some ms[0] := List.getElem?_eq_getElem (by omega)
    have h1 : ms[ms.length - 1]? = some ms[ms.length - 1] := List.getElem?_eq_getElem (by omega)
    refine h ((ends_eq nd h0 h1).mp ?_)
    have h2 : ms.reverse[0]? = ms[ms.length - 1]? := by
      rw [List.getElem?_reverse (by omega)]
      rfl
    rw [← e, h0, h1] at h2
    injection h2
theorem eq_more {ms : List Str} {f g : Str → List Str} (s : Str) : eqStr ms f (ms ++ [s]) g = false := eqStr_ne fun e => by
  have := congrArg List.length e
  simp at this
/-- clashes that are pairs of modes -/
theorem clS_ok {K : PySem.W.Frag} {H : Hp} {ms : List Str} : ∀ {xs : List V} {ps : List Pr}, DpAll K H xs (ps.map prD) → (∀ p ∈ ps, p.1 ∈ ms ∧ p.2 ∈ ms) → ClS K H ms xs (ps.map prD) none ps
  | _, [], .nil, _ => .nil
  | _, p :: r, .cons a b, h => by
    have ih := clS_ok b fun q hq => h q (List.mem_cons_of_mem _ hq)
    have hp := h p List.mem_cons_self
    generalize hd : prD p = d at a
    cases a with
    | tup st sd =>
      injection hd with hd
      subst hd
      have e := dpAll_strs_of (ss := [p.1, p.2]) sd
      subst e
      exact .ok st hp.1 hp.2 ih
    | _ => cases hd
theorem prs_its {K : PySem.W.Frag} {H : Hp} {ms : List Str} (hm : ∀ s ∈ ms, nameS s = true) {xs : List V} {ps : List Pr} (h : DpAll K H xs (ps.map prD)) (ok : okPs ms ps) : Its K H xs (ps.map prD) := by
  refine ⟨h, by rw [List.length_map]; exact ok.1, fun d hd => ?_⟩
  obtain ⟨p, hp, rfl⟩ := List.mem_map.mp hd
  have c := prD_can hm (ok.2 p hp)
  exact ⟨⟨c.1, Nat.le_trans c.2 (by decide)⟩, fun _ e => nomatch e⟩
theorem carg_ok {K : PySem.W.Frag} {H : Hp} {ms : List Str} {l : Addr} {xs : List V} {ps : List Pr} (hm : ∀ s ∈ ms, nameS s = true) (hl : SqL K H l xs) (h : DpAll K H xs (ps.map prD)) (ok : okPs ms ps) : CArg K H ms (.ref l) none ps := .lst hl (prs_its hm h ok) (clS_ok h ok.2)
/-- strengths made where nothing is wrong -/
theorem made_ok {K : PySem.W.Frag} {C : Addr} {Cs : Nat → Addr} {H : Hp} {x dx : Addr} {v1 v2 : V} {ms : List Str} {ps : List Pr} {Q : VK} {E : XK} (hx : H x = none) (hdx : H dx = none) (_ne : dx ≠ x) (hm : MArg K H v1 none ms) (hc : CArg K H ms v2 none ps)
    (k : ∀ H', Same H H' → StrOff K C H H' x ms (ag ms ps) → Q .non H') : sp_sinit K C Cs [.ref x, v1, v2] (upd (upd H dx (.own x)) x (.ins C dx [])) Q E := by
  have sH : Same H (upd (upd H dx (.own x)) x (.ins C dx [])) := fun b u e => by
    rw [upd_ne (ne_of_none e hx), upd_ne (ne_of_none e hdx)]
    exact e
  have sB : Same H (but (upd (upd H dx (.own x)) x (.ins C dx [])) x) := fun b u e => by
    rw [but_ne (ne_of_none e hx)]
    exact sH _ _ e
  refine ⟨x, dx, v1, v2, none, ms, rfl, upd_same, hm.mono sB, (fun q e => nomatch e), fun _ => ⟨none, ps, hc.mono sB, (fun q e => nomatch e), fun _ H' hk st => k H' (fun b u e => hk b u (sH _ _ e) (ne_of_none e hx)) fun G hG => st G fun b u hb e => hG b u ?_ e⟩⟩
  rcases hb with hb | hb
  · refine .inl ?_
    cases h : H b with
    | none => rfl
    | some u =>
      rw [sH _ _ h] at hb
      cases hb
  · exact .inr hb
def sp_lexch (K : PySem.W.Frag) : Sp := fun vs H Q _ => ∃ (l : Addr) (ms : List Str), vs = [.ref l] ∧ SqL K H l (ms.map V.str) ∧ (∀ s ∈ ms, nameS s = true) ∧ ms.Nodup ∧ 1 ≤ ms.length ∧ ms.length ≤ 8 ∧ ∀ H', Same H H' → Q (.bl true) H'
theorem eqI_str {K : PySem.W.Frag} {C : Addr} {H : Hp} {x z : Addr} {ms ms2 : List Str} {f f2 : Str → List Str} {Q : VK} {E : XK} (ic : C8.InsC K C) (st : StrAt K C H x ms f) (st2 : StrAt K C H z ms2 f2) (hn : ∀ s ∈ ms, nameS s = true) (hn2 : ∀ s ∈ ms2, nameS s = true) (q : Q (.bl (eqStr ms f ms2 f2)) H) : rEqI K C (sp_seq K C) E (.ref x) (.ref z) H Q := by
  obtain ⟨dx, l, d, kvs, h1, _⟩ := id st
  obtain ⟨dz, l2, d2, kvs2, g1, _⟩ := id st2
  exact ⟨x, dx, _, .ref C, rfl, h1, .base (.ins g1 ic.cl ic.ha ic.hn ic.htk ic.hm), by simp [PySem.W.notFirst], x, .ref z, ms, f, rfl, st, hn, .inr ⟨z, ms2, f2, rfl, st2, hn2, q⟩⟩
/-- .. and a value of a kind of its own -/
theorem eqI_typ {K : PySem.W.Frag} {C : Addr} {H : Hp} {x : Addr} {y : V} {t : String} {ms : List Str} {f : Str → List Str} {Q : VK} {E : XK} (ty : TyX K H y (.type t)) (io : PySem.W.kitOne K (.type t) (.ref C) = some false) (nf : PySem.W.notFirst K C (.type t) = true) (st : StrAt K C H x ms f) (hn : ∀ s ∈ ms, nameS s = true) (q : Q (.bl false) H) : rEqI K C (sp_seq K C) E (.ref x) y H Q := by
  obtain ⟨dx, l, d, kvs, h1, _⟩ := id st
  exact ⟨x, dx, _, .type t, rfl, h1, ty, nf, x, y, ms, f, rfl, st, hn, .inl ⟨t, ty, io, q⟩⟩
/-- two lists of the same objects, or data -/
def rNeU (K : PySem.W.Frag) : R2 := fun x y H Q => rNeS K x y H Q ∨ rNeD K x y H Q
theorem op_neU {X : Cx} (hu : X.A.units + 64 < cLine) : OpR X (compareOp .NotEq) (rNeU X.K) := fun pins s σ H x y v u Q I rx ry h => h.elim (op_neS hu pins s σ H x y v u Q I rx ry) (op_neD hu pins s σ H x y v u Q I rx ry)
theorem dp_sure {K : PySem.W.Frag} {H : Hp} {v : V} {d : PyData} (h : Dp K H v d) : sureV v = true := by cases h <;> rfl
theorem vd_sure {K : PySem.W.Frag} {H : Hp} {v : V} {o : Option PyData} (h : VD K H v o) : sureV v = true := by
  cases h with
  | dat a _ _ => exact dp_sure a
  | dic a => rfl
theorem scan_sure {K : PySem.W.Frag} {H : Hp} : ∀ {xs : List V} {ds : List PyData} {seen : List Str} {q : Nat × V}, DpAll K H xs ds → scanM xs ds seen = some q → sureV q.2 = true
  | x :: xs, d :: ds, seen, q, .cons a b, h => by
    rw [scan_one] at h
    split at h
    · split at h
      · cases h
        exact dp_sure a
      · exact scan_sure b h
    · cases h
      exact dp_sure a
theorem ClS.sure {K : PySem.W.Frag} {H : Hp} {ms : List Str} {xs : List V} {ds : List PyData} {r : Option (Nat × V)} {ps : List Pr} (h : ClS K H ms xs ds r ps) : ∀ q, r = some q → sureV q.2 = true := by
  induction h with
  | nil => intro q e; cases e
  | odd a b => intro q e; cases e; exact dp_sure a
  | one a b c d => intro q e; cases e; exact dp_sure b
  | two a b c d e => intro q e; cases e; exact dp_sure c
  | ok a b c _ ih => exact ih
theorem both_sure {K : PySem.W.Frag} {H : Hp} {v1 v2 : V} {r : Option (Nat × V)} {ms : List Str} {ps : List Pr} (h : Both K H v1 v2 r ms ps) {n : Nat} {v : V} (e : r = some (n, v)) : sureV v = true := by
  cases h with
  | bad a =>
    cases a with
    | nol a b => cases e; exact vd_sure a
    | bad a b c => cases e; exact scan_sure b.1 c
    | len a b c d => cases e; rfl
  | go a b =>
    cases b with
    | nol a b => cases e; exact vd_sure a
    | lst a b c => exact c.sure _ e
theorem sure3 {w : Str} {v : V} (h : sureV v = true) : ([.str w, v] : List V).all sureV = true := by
  show (sureV (.str w) && (sureV v && true)) = true
  rw [h]
  rfl
theorem names_cd {ms : List Str} (h : ∀ s ∈ ms, nameS s = true) : (strsL ms).canLay0 = true ∧ (strsL ms).depth ≤ 1 := by
  have a : ∀ d ∈ ms.map PyData.str, d.canLay0 = true ∧ d.depth ≤ 0 := fun d hd => by
    obtain ⟨s, hs, rfl⟩ := List.mem_map.mp hd
    exact ⟨by simp only [PyData.canLay0]; exact nameS_ok (h s hs), by simp [PyData.depth]⟩
  have dl := depthAll_le fun d hd => (a d hd).2
  exact ⟨by simp only [strsL, PyData.canLay0]; exact canAll_mem.mpr fun d hd => (a d hd).1, by simp only [strsL, PyData.depth]; omega⟩
theorem prs_cd {ms : List Str} (h : ∀ s ∈ ms, nameS s = true) {ps : List Pr} (hp : ∀ p ∈ ps, p.1 ∈ ms ∧ p.2 ∈ ms) : (PyData.list (ps.map prD)).canLay0 = true ∧ (PyData.list (ps.map prD)).depth ≤ 2 := by
  have a : ∀ d ∈ ps.map prD, d.canLay0 = true ∧ d.depth ≤ 1 := fun d hd => by
    obtain ⟨p, hq, rfl⟩ := List.mem_map.mp hd
    exact prD_can h (hp p hq)
  have dl := depthAll_le fun d hd => (a d hd).2
  exact ⟨by simp only [PyData.canLay0]; exact canAll_mem.mpr fun d hd => (a d hd).1, by simp only [PyData.depth]; omega⟩
theorem made_sh {ms : List Str} (h : ∀ s ∈ ms, nameS s = true) (ps : List Pr) : SeqAt.shaped (madeD ms ps) = true := shaped_list (n := 2) (by decide) fun d hd => by
  simp only [List.mem_cons, List.not_mem_nil, or_false] at hd
  rcases hd with rfl | rfl | rfl
  · exact ⟨by decide +kernel, by simp [PyData.depth]⟩
  · exact ⟨(names_cd h).1, Nat.le_trans (names_cd h).2 (by decide)⟩
  · exact prs_cd h fun p hp => mem_prsOf hp
theorem handed_sh {ms : List Str} (h : ∀ s ∈ ms, nameS s = true) {ps : List Pr} (hp : ∀ p ∈ ps, p.1 ∈ ms ∧ p.2 ∈ ms) : SeqAt.shaped (.list [strsL ms, .list (ps.map prD)]) = true := shaped_list (n := 2) (by decide) fun d hd => by
  simp only [List.mem_cons, List.not_mem_nil, or_false] at hd
  rcases hd with rfl | rfl
  · exact ⟨(names_cd h).1, Nat.le_trans (names_cd h).2 (by decide)⟩
  · exact prs_cd h hp
/-- both, where nothing is wrong -/
theorem both_ok {K : PySem.W.Frag} {H : Hp} {l1 l2 : Addr} {ms : List Str} {xs : List V} {ps : List Pr} (hn : ∀ s ∈ ms, nameS s = true) (nd : ms.Nodup) (l8 : 1 ≤ ms.length ∧ ms.length ≤ 8) (h1 : SqL K H l1 (ms.map V.str)) (h2 : SqL K H l2 xs) (h : DpAll K H xs (ps.map prD)) (ok : okPs ms ps) : Both K H (.ref l1) (.ref l2) none ms ps := .go (.ok h1 hn nd l8) (carg_ok hn h2 h ok)
theorem both_names {K : PySem.W.Frag} {H : Hp} {v1 v2 : V} {ms : List Str} {ps : List Pr} (h : Both K H v1 v2 none ms ps) : ∀ s ∈ ms, nameS s = true := by
  cases h with
  | go a b => cases a with
    | ok _ hn _ _ => exact hn
/-- two lists are changed: the strengths stay -/
theorem drop2 {K : PySem.W.Frag} {C : Addr} {G0 H5 H6 H9 : Hp} {p c1 c2 x : Addr} {n : Nat} {ms : List Str} {f : Str → List Str} (B : BoxIn G0 H9 p n) (st : StrOff K C H5 H6 x ms f) (hp : H5 p ≠ none) (h1 : H5 c1 ≠ none) (h2 : H5 c2 ≠ none) (hx : H5 x = none) (g1 : G0 c1 = none) (g2 : G0 c2 = none)
    (s9 : ∀ b u, H6 b = some u → b ≠ c1 → b ≠ c2 → H9 b = some u) : ∃ G, Same G0 G ∧ BoxIn G H9 p n ∧ StrAt K C G x ms f := by
  obtain ⟨A, sA⟩ := B.all
  obtain ⟨e1, A1⟩ := less_ok sA A g1
  obtain ⟨e2, A2⟩ := less_ok e1 A1 g2
  refine ⟨_, e2, A2, st _ fun b u hb e => ?_⟩
  have hb0 : H5 b = none := hb.elim id fun z => by rw [z]; exact hx
  have n0 : b ≠ p := fun z => hp (by rw [← z]; exact hb0)
  have n1 : b ≠ c1 := fun z => h1 (by rw [← z]; exact hb0)
  have n2 : b ≠ c2 := fun z => h2 (by rw [← z]; exact hb0)
  rw [but_ne n2, but_ne n1, but_ne n0]
  exact s9 b u e n1 n2
theorem prs_perm {K : PySem.W.Frag} {H : Hp} {xs ys : List V} (h : ys.Perm xs) : ∀ {ps : List Pr}, DpAll K H xs (ps.map prD) → ∃ qs : List Pr, DpAll K H ys (qs.map prD) ∧ qs.Perm ps := by
  induction h with
  | nil =>
    intro ps d
    cases ps with
    | nil => exact ⟨[], .nil, .nil⟩
    | cons p r => cases d
  | cons x _ ih =>
    intro ps d
    cases ps with
    | nil => cases d
    | cons p r =>
      cases d with
      | cons a b =>
        obtain ⟨qs, h1, h2⟩ := ih b
        exact ⟨p :: qs, .cons a h1, h2.cons p⟩
  | swap x y l =>
    intro ps d
    cases ps with
    | nil => cases d
    | cons p r =>
      cases d with
      | cons a b =>
        cases r with
        | nil => cases b
        | cons q r =>
          cases b with
          | cons c e => exact ⟨q :: p :: r, .cons c (.cons a e), .swap _ _ _⟩
  | trans _ _ ih1 ih2 =>
    intro ps d
    obtain ⟨qs, h1, h2⟩ := ih2 d
    obtain ⟨rs, k1, k2⟩ := ih1 h1
    exact ⟨rs, k1, k2.trans h2⟩
theorem cut_drop1 (ys : List V) : cutV ys (some 1) none = ys.drop 1 := by
  cases ys with
  | nil => rfl
  | cons y r => exact cut_dropV (i := 1) (y :: r) (by simp)
/-! ### cut at one sign -/
theorem pre_one {c d : Nat} {r : List Nat} : TL.pre [c] (d :: r) = decide (d = c) := by
  unfold TL.pre
  rw [Bool.eq_iff_iff, decide_eq_true_iff]
  simp
theorem spl_one {c d : Nat} {acc r : List Nat} : TL.spl [c] 0 acc (d :: r) = if d = c then acc :: TL.spl [c] 0 [] r else TL.spl [c] 0 (acc ++ [d]) r := by
  show (if TL.pre [c] (d :: r) = true then _ else _) = _
  rw [pre_one]
  by_cases h : d = c
  · rw [if_pos (decide_eq_true h), if_pos h]
    rfl
  · rw [if_neg (by rw [decide_eq_false h]; decide), if_neg h]
theorem spl_ne (c : Nat) : ∀ (L acc : List Nat), TL.spl [c] 0 acc L ≠ []
  | [], acc => by simp [TL.spl]
  | d :: r, acc => by
    rw [spl_one]
    split
    · simp
    · exact spl_ne c r _
theorem join_spl (c : Nat) : ∀ (L acc : List Nat), TL.joinL [c] (TL.spl [c] 0 acc L) = acc ++ L
  | [], acc => by simp [TL.spl, TL.joinL]
  | d :: r, acc => by
    rw [spl_one]
    by_cases h : d = c
    · rw [if_pos h]
      have ih := join_spl c r []
      cases e : TL.spl [c] 0 [] r with
      | nil => exact absurd e (spl_ne c r [])
      | cons p q =>
        rw [e] at ih
        rw [TL.joinL, ih, h]
        simp
    · rw [if_neg h, join_spl c r]
      simp
theorem spl_app (c : Nat) : ∀ (x y acc : List Nat), TL.spl [c] 0 acc (x ++ c :: y) = TL.spl [c] 0 acc x ++ TL.spl [c] 0 [] y
  | [], y, acc => by
    rw [List.nil_append, spl_one, if_pos rfl]
    rfl
  | d :: r, y, acc => by
    rw [List.cons_append, spl_one, spl_one]
    by_cases h : d = c
    · rw [if_pos h, if_pos h, spl_app c r y, List.cons_append]
    · rw [if_neg h, if_neg h, spl_app c r y]
/-- the last part ends as the text does -/
theorem spl_end {c d : Nat} (h : d ≠ c) : ∀ (x acc : List Nat), ∃ w, w ++ [d] ∈ TL.spl [c] 0 acc (x ++ [d])
  | [], acc => ⟨acc, by rw [List.nil_append, spl_one, if_neg h]; simp [TL.spl]⟩
  | e :: r, acc => by
    rw [List.cons_append, spl_one]
    by_cases q : e = c
    · rw [if_pos q]
      obtain ⟨w, hw⟩ := spl_end h r []
      exact ⟨w, List.mem_cons_of_mem _ hw⟩
    · rw [if_neg q]
      exact spl_end h r _
/-! ### cut at a longer one: once, or at each place -/
theorem spl_skip (S : List Nat) : ∀ (k : Nat) (acc L : List Nat), TL.spl S k acc L = TL.spl S 0 acc (L.drop k)
  | 0, _, _ => rfl
  | k + 1, acc, [] => by simp [TL.spl]
  | k + 1, acc, _ :: r => spl_skip S k acc r
theorem spl_par (S : List Nat) (hS : S ≠ []) : ∀ (L acc : List Nat), TL.spl S 0 acc L = match TL.par S acc L with
    | none => [acc ++ L]
    | some (a, b) => a :: TL.spl S 0 [] b
  | [], acc => by simp [TL.spl, TL.par]
  | c :: r, acc => by
    show (if TL.pre S (c :: r) = true then _ else _) = _
    rw [TL.par]
    cases h : TL.pre S (c :: r) with
    | true =>
      rw [if_pos rfl, if_pos rfl, spl_skip]
      cases S with
      | nil => exact absurd rfl hS
      | cons s S => rfl
    | false =>
      rw [if_neg (by decide), if_neg (by decide), spl_par S hS r]
      cases TL.par S (acc ++ [c]) r with
      | none => simp
      | some p => rfl
theorem par_app {S : List Nat} : ∀ {L acc a b : List Nat}, TL.par S acc L = some (a, b) → acc ++ L = a ++ S ++ b
  | [], acc, a, b, h => by simp [TL.par] at h
  | c :: r, acc, a, b, h => by
    rw [TL.par] at h
    split at h
    · rename_i hp
      injection h with h
      injection h with h1 h2
      subst h1 h2
      have e : (c :: r).take S.length = S := eq_of_beq hp
      have := List.take_append_drop S.length (c :: r)
      rw [e] at this
      rw [List.append_assoc, this]
    · have := par_app h
      simpa using this
/-! ### strengths read from a text: by the program, and by the law -/
def okMB (ms : List Str) : Bool := ms.all nameS && (decide ms.Nodup && decide (ms.length ≤ 8))
def prO (ms : List Str) (w : Str) : Option Pr := match Txt.split w "!" with
  | [a, b] => if a ∈ ms ∧ b ∈ ms then some (a, b) else none
  | _ => none
def prsO (ms : List Str) : List Str → Option (List Pr)
  | [] => some []
  | w :: r => match prO ms w with
    | some p => (prsO ms r).map (p :: ·)
    | none => none
def progP (t : Str) : Option (List Str × List Pr) :=
  if okMB (Txt.split (Txt.partition t ": ").1 " ") = true then (prsO (Txt.split (Txt.partition t ": ").1 " ") (if (Txt.partition t ": ").2.2 = Str.empty then [] else Txt.split (Txt.partition t ": ").2.2 " ")).map fun ps => (Txt.split (Txt.partition t ": ").1 " ", ps) else none
def lawP (tx : List Str → List Pr → Str) (t : Str) : Option (List Str × List Pr) := match Txt.split t ": " with
  | [h] => if okMB (Txt.split h " ") = true then (if tx (Txt.split h " ") [] = t then some (Txt.split h " ", []) else none) else none
  | [h, b] => if okMB (Txt.split h " ") = true then (prsO (Txt.split h " ") (Txt.split b " ")).bind fun ps => if tx (Txt.split h " ") ps = t then some (Txt.split h " ", ps) else none else none
  | _ => none
theorem sep_S : (": " : Str) = SX.S [58, 32] := by decide +kernel
theorem sp_S : (" " : Str) = SX.S [32] := by decide +kernel
theorem bang_S : ("!" : Str) = SX.S [33] := by decide +kernel
theorem split_sep (a : List Nat) : Txt.split (SX.S a) ": " = (TL.spl [58, 32] 0 [] a).map SX.S := by
  rw [sep_S]
  exact SX.split_S (by decide) (by decide)
theorem split_sp (a : List Nat) : Txt.split (SX.S a) " " = (TL.spl [32] 0 [] a).map SX.S := by
  rw [sp_S]
  exact SX.split_S (by decide) (by decide)
theorem split_bang (a : List Nat) : Txt.split (SX.S a) "!" = (TL.spl [33] 0 [] a).map SX.S := by
  rw [bang_S]
  exact SX.split_S (by decide) (by decide)
theorem join_sp (a : List Nat) : Txt.join " " (Txt.split (SX.S a) " ") = SX.S a := by
  rw [split_sp, sp_S, SX.join_S, join_spl, List.nil_append]
theorem prsO_none {ms : List Str} {w : Str} (h : prO ms w = none) : ∀ {ws : List Str}, w ∈ ws → prsO ms ws = none
  | x :: r, hw => by
    unfold prsO
    rcases List.mem_cons.mp hw with e | hr
    · rw [← e, h]
    · rw [prsO_none h hr]
      cases prO ms x <;> rfl
/-- a word that ends with a sign that stands in no name -/
theorem prO_end {ms : List Str} (hn : ∀ s ∈ ms, nameS s = true) (w : List Nat) : prO ms (SX.S (w ++ [58])) = none := by
  obtain ⟨u, hu⟩ := spl_end (c := 33) (d := 58) (by decide) w []
  unfold prO
  rw [split_bang]
  have bad : SX.S (u ++ [58]) ∉ ms := fun hm => by
    have := hn _ hm
    unfold nameS at this
    rw [Bool.and_eq_true, Bool.and_eq_true, Bool.and_eq_true] at this
    have := List.all_eq_true.mp this.2.2.2 58 (by simp [SX.S])
    rw [okSign_is, decide_eq_true_iff] at this
    exact absurd this (by decide +kernel)
  generalize hL : TL.spl [33] 0 [] (w ++ [58]) = L at hu
  split
  · rename_i a b e
    match L, e, hu with
    | [p, q], e, hu =>
      injection e with e1 e2
      injection e2 with e2
      refine if_neg fun h => ?_
      simp only [List.mem_cons, List.not_mem_nil, or_false] at hu
      rcases hu with z | z
      · exact bad (by rw [z, e1]; exact h.1)
      · exact bad (by rw [z, e2]; exact h.2)
  · rfl
theorem okM_names {ms : List Str} (h : okMB ms = true) : ∀ s ∈ ms, nameS s = true := by
  unfold okMB at h
  rw [Bool.and_eq_true] at h
  exact List.all_eq_true.mp h.1
theorem read_same (tx : List Str → List Pr → Str) (t0 : ∀ ms, tx ms [] = Txt.join " " ms) (t : Str) : lawP tx t = (progP t).bind fun r => if tx r.1 r.2 = t then some r else none := by
  rw [← SX.S_tl t]
  generalize t.cps.toList = L
  unfold lawP progP
  rw [split_sep, spl_par [58, 32] (by decide)]
  cases e : TL.par [58, 32] [] L with
  | none =>
    rw [sep_S, SX.partition_none (by decide) e]
    simp only [List.nil_append, List.map_cons, List.map_nil]
    rw [if_pos (show SX.S [] = Str.empty from rfl)]
    by_cases c : okMB (Txt.split (SX.S L) " ") = true
    · rw [if_pos c, if_pos c]
      rfl
    · rw [if_neg c, if_neg c]
      rfl
  | some p =>
    obtain ⟨a, b⟩ := p
    have eL := par_app e
    rw [List.nil_append] at eL
    rw [sep_S, SX.partition_some (by decide) e]
    simp only [List.map_cons]
    rw [spl_par [58, 32] (by decide)]
    cases e2 : TL.par [58, 32] [] b with
    | none =>
      simp only [List.nil_append, List.map_cons, List.map_nil]
      by_cases c : okMB (Txt.split (SX.S a) " ") = true
      · rw [if_pos c, if_pos c]
        by_cases hb : SX.S b = Str.empty
        · rw [if_pos hb]
          have b0 : b = [] := SX.S_inj (hb.trans (show Str.empty = SX.S [] from rfl))
          subst b0
          have : prsO (Txt.split (SX.S a) " ") (Txt.split (SX.S []) " ") = none := by
            rw [split_sp []]
            refine prsO_none (w := SX.S []) ?_ (List.mem_map.mpr ⟨[], by rw [TL.spl_nil]; exact List.mem_singleton.mpr rfl, rfl⟩)
            unfold prO
            rw [split_bang]
            rfl
          rw [this]
          show none = (if _ then _ else _)
          rw [if_neg]
          show tx _ [] ≠ _
          rw [t0, join_sp, eL]
          intro z
          have z := congrArg List.length (SX.S_inj z)
          rw [List.length_append, List.length_append] at z
          simp at z
        · rw [if_neg hb]
          cases prsO (Txt.split (SX.S a) " ") (Txt.split (SX.S b) " ") with
          | none => rfl
          | some ps => rfl
      · rw [if_neg c, if_neg c]
        rfl
    | some p2 =>
      obtain ⟨a2, b2⟩ := p2
      have eb := par_app e2
      rw [List.nil_append] at eb
      have ne : ∃ x y, TL.spl [58, 32] 0 [] b2 = x :: y := by
        rw [spl_par [58, 32] (by decide)]
        cases TL.par [58, 32] [] b2 with
        | none => exact ⟨_, _, rfl⟩
        | some q => exact ⟨_, _, rfl⟩
      obtain ⟨x, y, exy⟩ := ne
      simp only [exy, List.map_cons]
      by_cases c : okMB (Txt.split (SX.S a) " ") = true
      · rw [if_pos c]
        have hb : SX.S b ≠ Str.empty := fun z => by
          have : b = [] := SX.S_inj (z.trans (show Str.empty = SX.S [] from rfl))
          rw [this] at eb
          simp at eb
        rw [if_neg hb]
        obtain ⟨w, hw⟩ := spl_end (c := 32) (d := 58) (by decide) a2 []
        have : prsO (Txt.split (SX.S a) " ") (Txt.split (SX.S b) " ") = none := by
          refine prsO_none (prO_end (okM_names c) w) ?_
          rw [split_sp b]
          refine List.mem_map.mpr ⟨_, ?_, rfl⟩
          have e3 : b = (a2 ++ [58]) ++ 32 :: b2 := by rw [eb]; simp
          rw [e3, spl_app]
          exact List.mem_append_left _ hw
        rw [this]
        rfl
      · rw [if_neg c]
        rfl
/-! ### promises -/
theorem join_one (a x : Str) : Txt.join a [x] = x := TL.ext_tl (by rw [TL.join_eq, TL.tl_join]; rfl)
theorem textM_nil (ms : List Str) : textM ms [] = Txt.join " " ms := by
  cases ms with
  | nil => rfl
  | cons m r => exact join_one _ _
def tOk (t : Str) : Prop := t.length ≤ 1000 ∧ PyData.strOk t = true
def sp_parsed (K : PySem.W.Frag) (C : Addr) (Cs : Nat → Addr) : Sp := fun vs H Q E => ∃ t : Str, vs = [.str t] ∧ tOk t ∧ (progP t = none → ∀ q : Nat × V, q.1 ≤ 5 → Ex6 H E Cs q) ∧
  ∀ ms ps, progP t = some (ms, ps) → ∀ H' x, Same H H' → StrAt K C H' x ms (ag ms ps) → Q (.ref x) H'
def readT (t : Str) : Option (List Str × List Pr) := (progP t).bind fun r => if textM r.1 (prsOf (ag r.1 r.2) r.1) = t then some r else none
/-- data, a dict, or strengths -/
def RV (K : PySem.W.Frag) (C : Addr) (H : Hp) (v : V) (o : Option PyData) : Prop := VD K H v o ∨ (o = none ∧ ∃ a dx fs, v = .ref a ∧ H a = some (.ins C dx fs))
theorem RV.mono {K : PySem.W.Frag} {C : Addr} {H H' : Hp} {v : V} {o : Option PyData} (s : Same H H') (h : RV K C H v o) : RV K C H' v o := by
  rcases h with h | ⟨e, a, dx, fs, e2, h⟩
  · exact .inl (h.mono s)
  · exact .inr ⟨e, a, dx, fs, e2, s _ _ h⟩
theorem RV.sure {K : PySem.W.Frag} {C : Addr} {H : Hp} {v : V} {o : Option PyData} (h : RV K C H v o) : sureV v = true := by
  rcases h with h | ⟨_, a, _, _, rfl, _⟩
  · exact vd_sure h
  · rfl
theorem tOk_vd {K : PySem.W.Frag} {H : Hp} {t : Str} (h : tOk t) : VD K H (.str t) (some (.str t)) := .dat (.str t) (shaped_iff.mpr ⟨by simp only [PyData.canLay0]; exact h.2, by simp [PyData.depth]⟩) fun s e => by injection e with e; rw [← e]; exact h.1
def sp_readS (K : PySem.W.Frag) (C Ct : Addr) : Sp := fun vs H Q E => ∃ (v : V) (o : Option PyData), vs = [v] ∧ RV K C H v o ∧ ((∀ t ms ps, o = some (.str t) → readT t = some (ms, ps) → ∀ H' x, Same H H' → StrAt K C H' x ms (ag ms ps) → Q (.ref x) H')) ∧
  ((∀ t, o = some (.str t) → readT t = none) → Rz H E Ct "value" v)
def sp_ltext (K : PySem.W.Frag) : Sp := fun vs H Q _ => ∃ (m l1 l2 : Addr) (ms : List Str) (ps : List Pr), vs = [.ref m] ∧ Model K H m l1 l2 ms ps ∧ (∀ s ∈ ms, nameS s = true) ∧ ms.length ≤ 8 ∧ 1 ≤ ms.length ∧ okPs ms ps ∧ ∀ H', Same H H' → Q (.str (textM ms (prsOf (ag ms ps) ms))) H'
/-- what a split asks, within a comprehension too -/
def rSplitN : V → List V → Hp → VK → Prop := fun x xs H Q => ∃ a b, x = .str a ∧ xs = [.str b] ∧ (b.length == 0) = false ∧ a.length + 2 ≤ sizeLine ∧ rNewStrs (Txt.split a b) H Q
/-- what tuple(x) asks, within a comprehension too -/
def rTupOfN (K : PySem.W.Frag) : List V → Hp → VK → Prop := fun xs H Q => ∃ p ys, xs = [V.ref p] ∧ ((SqL K H p ys ∧ ∀ (l : Addr), H l = none → Q (V.ref l) (upd H l (HO.tup ys))) ∨ SqT K H p ys ∧ Q (V.ref p) H)
theorem spl_in (S : List Nat) : ∀ (L acc : List Nat) (k : Nat), (∀ p ∈ TL.spl S k acc L, p.length ≤ acc.length + L.length ∧ ∀ c ∈ p, c ∈ acc ∨ c ∈ L) ∧ (TL.spl S k acc L).length ≤ L.length + 1
  | [], acc, k => by
    rw [TL.spl_nil]
    refine ⟨fun p hp => ?_, by simp⟩
    rw [List.mem_singleton.mp hp]
    exact ⟨by simp, fun c hc => .inl hc⟩
  | c :: r, acc, k + 1 => by
    obtain ⟨h1, h2⟩ := spl_in S r acc k
    refine ⟨fun p hp => ?_, by simp only [List.length_cons]; exact Nat.le_trans h2 (by omega)⟩
    obtain ⟨a, b⟩ := h1 p hp
    exact ⟨by simp only [List.length_cons]; omega, fun c hc => (b c hc).imp id (List.mem_cons_of_mem _)⟩
  | c :: r, acc, 0 => by
    cases h : TL.pre S (c :: r) with
    | true =>
      rw [TL.spl_hit h]
      obtain ⟨h1, h2⟩ := spl_in S r [] (S.length - 1)
      refine ⟨fun p hp => ?_, by simp only [List.length_cons]; omega⟩
      rcases List.mem_cons.mp hp with rfl | hp
      · exact ⟨by simp, fun c hc => .inl hc⟩
      · obtain ⟨a, b⟩ := h1 p hp
        exact ⟨by simp only [List.length_cons, List.length_nil] at a ⊢; omega, fun c hc => .inr (List.mem_cons_of_mem _ ((b c hc).elim (fun z => (List.not_mem_nil z).elim) id))⟩
    | false =>
      rw [TL.spl_miss h]
      obtain ⟨h1, h2⟩ := spl_in S r (acc ++ [c]) 0
      refine ⟨fun p hp => ?_, by simp only [List.length_cons]; omega⟩
      obtain ⟨a, b⟩ := h1 p hp
      refine ⟨by simp only [List.length_append, List.length_cons, List.length_nil] at a ⊢; omega, fun d hd => ?_⟩
      rcases b d hd with z | z
      · rcases List.mem_append.mp z with y | y
        · exact .inl y
        · rw [List.mem_singleton.mp y]
          exact .inr List.mem_cons_self
      · exact .inr (List.mem_cons_of_mem _ z)
theorem tOk_S {L : List Nat} : tOk (SX.S L) ↔ L.length ≤ 1000 ∧ ∀ c ∈ L, c < 0x110000 := by
  unfold tOk
  rw [SX.S_len, strOk_iff]
theorem tOk_sub {L M : List Nat} (h : tOk (SX.S L)) (h1 : M.length ≤ L.length) (h2 : ∀ c ∈ M, c ∈ L) : tOk (SX.S M) := by
  rw [tOk_S] at h ⊢
  exact ⟨Nat.le_trans h1 h.1, fun c hc => h.2 c (h2 c hc)⟩
theorem split_ok {t sep : Str} {s : List Nat} (e : ∀ a, Txt.split (SX.S a) sep = (TL.spl s 0 [] a).map SX.S) (ht : tOk t) : (∀ w ∈ Txt.split t sep, tOk w) ∧ (Txt.split t sep).length ≤ 1001 := by
  rw [← SX.S_tl t] at ht ⊢
  generalize t.cps.toList = L at ht
  rw [e L]
  obtain ⟨h1, h2⟩ := spl_in s L [] 0
  refine ⟨fun w hw => ?_, by rw [List.length_map]; exact Nat.le_trans h2 (by have := (tOk_S.mp ht).1; omega)⟩
  obtain ⟨p, hp, rfl⟩ := List.mem_map.mp hw
  obtain ⟨a, b⟩ := h1 p hp
  exact tOk_sub ht (by simpa using a) fun c hc => (b c hc).elim (fun z => (List.not_mem_nil z).elim) id
theorem part_ok {t : Str} (ht : tOk t) : tOk (Txt.partition t ": ").1 ∧ tOk (Txt.partition t ": ").2.2 := by
  rw [← SX.S_tl t] at ht ⊢
  generalize t.cps.toList = L at ht
  rw [sep_S]
  cases e : TL.par [58, 32] [] L with
  | none =>
    rw [SX.partition_none (by decide) e]
    exact ⟨ht, tOk_sub ht (by simp) fun c hc => (List.not_mem_nil hc).elim⟩
  | some p =>
    obtain ⟨a, b⟩ := p
    rw [SX.partition_some (by decide) e]
    have eL := par_app e
    rw [List.nil_append] at eL
    subst eL
    exact ⟨tOk_sub ht (by simp) (by simp; intro c hc; exact .inl hc), tOk_sub ht (by simp; omega) (by simp; intro c hc; exact .inr (.inr (.inr hc)))⟩
def tupD (w : Str) : PyData := .tuple ((Txt.split w "!").map PyData.str)
theorem can_str {w : Str} (h : tOk w) : (PyData.str w).canLay0 = true ∧ (PyData.str w).depth ≤ 0 := ⟨by simp only [PyData.canLay0]; exact h.2, by simp [PyData.depth]⟩
theorem its_strs {K : PySem.W.Frag} {H : Hp} {ws : List Str} (h : ∀ w ∈ ws, tOk w) (l : ws.length ≤ 1001) : Its K H (ws.map V.str) (ws.map PyData.str) := by
  refine ⟨dpAll_strs ws, by rw [List.length_map]; omega, fun d hd => ?_⟩
  obtain ⟨s, hs, rfl⟩ := List.mem_map.mp hd
  exact ⟨⟨(can_str (h s hs)).1, Nat.le_trans (can_str (h s hs)).2 (by decide)⟩, fun t e => by injection e with e; rw [← e]; exact (h s hs).1⟩
theorem its_tups {K : PySem.W.Frag} {H : Hp} {zs : List V} {ws : List Str} (dp : DpAll K H zs (ws.map tupD)) (h : ∀ w ∈ ws, tOk w) (l : ws.length ≤ 1001) : Its K H zs (ws.map tupD) := by
  refine ⟨dp, by rw [List.length_map]; omega, fun d hd => ?_⟩
  obtain ⟨s, hs, rfl⟩ := List.mem_map.mp hd
  have a : ∀ d ∈ (Txt.split s "!").map PyData.str, d.canLay0 = true ∧ d.depth ≤ 0 := fun d hd => by
    obtain ⟨u, hu, rfl⟩ := List.mem_map.mp hd
    exact can_str ((split_ok split_bang (h s hs)).1 u hu)
  have dl := depthAll_le fun d hd => (a d hd).2
  exact ⟨⟨by simp only [tupD, PyData.canLay0]; exact canAll_mem.mpr fun d hd => (a d hd).1, by simp only [tupD, PyData.depth]; omega⟩, fun t e => nomatch e⟩
/-- what is wrong with the pairs, and how they are read -/
theorem clS_prsO {K : PySem.W.Frag} {H : Hp} {ms : List Str} {xs : List V} {ds : List PyData} {r : Option (Nat × V)} {ps : List Pr} (h : ClS K H ms xs ds r ps) : ∀ ws : List Str, ws.map tupD = ds → (r = none → prsO ms ws = some ps) ∧ ∀ q, r = some q → prsO ms ws = none := by
  have two : ∀ (w : Str) (e1 e2 : PyData), tupD w = .tuple [e1, e2] → ∃ a b, Txt.split w "!" = [a, b] ∧ e1 = .str a ∧ e2 = .str b := fun w e1 e2 e => by
    unfold tupD at e
    injection e with e
    match Txt.split w "!", e with
    | [a, b], e =>
      injection e with z1 z2
      injection z2 with z2
      exact ⟨a, b, rfl, z1.symm, z2.symm⟩
  have md : ∀ a : Str, modeB ms (.str a) = false → a ∉ ms := fun a e hm => by
    rw [(modeB_iff ms (.str a)).mpr ⟨a, hm, rfl⟩] at e
    cases e
  induction h with
  | nil =>
    intro ws e
    cases ws with
    | nil => exact ⟨fun _ => rfl, fun q e => nomatch e⟩
    | cons w r => cases e
  | odd a b =>
    intro ws e
    cases ws with
    | nil => cases e
    | cons w r =>
      injection e with e1 e2
      refine ⟨(fun e => nomatch e), fun q _ => prsO_none (w := w) ?_ List.mem_cons_self⟩
      unfold prO
      rw [← e1] at b
      rcases b with b | ⟨es, b, l⟩
      · cases b
      · unfold tupD at b
        injection b with b
        split
        · rename_i x y e
          rw [e] at b
          rw [← b] at l
          exact absurd rfl l
        · rfl
  | one a b c d =>
    intro ws e
    cases ws with
    | nil => cases e
    | cons w r =>
      injection e with e1 e2
      obtain ⟨x, y, es, rfl, rfl⟩ := two _ _ _ e1
      refine ⟨(fun e => nomatch e), fun q _ => prsO_none (w := w) ?_ List.mem_cons_self⟩
      unfold prO
      rw [es]
      exact if_neg fun z => md x d z.1
  | two a b c d f =>
    intro ws e
    cases ws with
    | nil => cases e
    | cons w r =>
      injection e with e1 e2
      obtain ⟨x, y, es, rfl, rfl⟩ := two _ _ _ e1
      refine ⟨(fun e => nomatch e), fun q _ => prsO_none (w := w) ?_ List.mem_cons_self⟩
      unfold prO
      rw [es]
      exact if_neg fun z => md y f z.2
  | @ok t a b xs ds r ps st ha hb _ ih =>
    intro ws e
    cases ws with
    | nil => cases e
    | cons w rs =>
      injection e with e1 e2
      obtain ⟨x, y, es, z1, z2⟩ := two _ _ _ e1
      injection z1 with z1
      injection z2 with z2
      subst z1 z2
      have p : prO ms w = some (a, b) := by
        unfold prO
        rw [es]
        exact if_pos ⟨ha, hb⟩
      obtain ⟨i1, i2⟩ := ih rs e2
      unfold prsO
      rw [p]
      refine ⟨fun e => ?_, fun q e => ?_⟩
      · show (prsO ms rs).map _ = _
        rw [i1 e]
        rfl
      · show (prsO ms rs).map _ = _
        rw [i2 q e]
        rfl
theorem both_prog {K : PySem.W.Frag} {H : Hp} {lm D : Addr} {hw ws : List Str} {zs : List V} (hl : SqL K H lm (hw.map V.str)) (h1 : ∀ w ∈ hw, tOk w) (l1 : hw.length ≤ 1001) (l0 : 1 ≤ hw.length) (hD : SqL K H D zs) (dp : DpAll K H zs (ws.map tupD)) (h2 : ∀ w ∈ ws, tOk w) (l2 : ws.length ≤ 1001) :
    ∃ r ms ps, Both K H (.ref lm) (.ref D) r ms ps ∧ (r = none → (if okMB hw = true then (prsO hw ws).map fun ps => (hw, ps) else none) = some (ms, ps)) ∧ ∀ q, r = some q → (if okMB hw = true then (prsO hw ws).map fun ps => (hw, ps) else none) = none := by
  have it := its_strs (K := K) (H := H) h1 l1
  have okm : okMB hw = true → (∀ s ∈ hw, nameS s = true) ∧ hw.Nodup ∧ hw.length ≤ 8 := fun h => by
    unfold okMB at h
    rw [Bool.and_eq_true, Bool.and_eq_true, decide_eq_true_iff, decide_eq_true_iff] at h
    exact ⟨List.all_eq_true.mp h.1, h.2.1, h.2.2⟩
  cases e : scanM (hw.map V.str) (hw.map PyData.str) [] with
  | some q =>
    refine ⟨_, _, _, .bad (.bad hl it e), (fun e => nomatch e), fun _ _ => if_neg fun c => ?_⟩
    obtain ⟨a, b, _⟩ := okm c
    rw [scan_ok hw [] a b fun s _ h => (List.not_mem_nil h).elim] at e
    cases e
  | none =>
    obtain ⟨ms, _, e2, hn, nd⟩ := scan_names [] it.1 e
    have em : hw = ms := by
      have e3 := congrArg (List.map strOf) e2
      rw [List.map_map, List.map_map] at e3
      have id : strOf ∘ PyData.str = id := rfl
      rw [id, List.map_id, List.map_id] at e3
      exact e3
    subst em
    by_cases c : hw.length ≤ 8
    · have ok : okMB hw = true := by
        unfold okMB
        rw [Bool.and_eq_true, Bool.and_eq_true, decide_eq_true_iff, decide_eq_true_iff]
        exact ⟨List.all_eq_true.mpr fun s hs => (hn s hs).1, nd, c⟩
      obtain ⟨r, ps, hc⟩ := clS_all hw dp
      obtain ⟨i1, i2⟩ := clS_prsO hc ws rfl
      refine ⟨r, hw, ps, .go (.ok hl (fun s hs => (hn s hs).1) nd ⟨l0, c⟩) (.lst hD (its_tups dp h2 l2) hc), fun e => ?_, fun q e => ?_⟩
      · rw [if_pos ok, i1 e]
        rfl
      · rw [if_pos ok, i2 q e]
        rfl
    · refine ⟨_, _, _, .bad (.len hl it e (by rw [List.length_map]; omega)), (fun e => nomatch e), fun _ _ => if_neg fun z => c (okm z).2.2⟩
theorem list_or_split {σ : L2.St} {Q : VK} {H : Hp} {c : Bool} {s : Str} (hv : σ[3]? = some (some (.str s))) (hs : s.length ≤ 1000) (rest : ∀ p H' ws, Same H H' → H' p = some (.lst (ws.map V.str)) → ws = (if c = true then [] else Txt.split s " ") → Q (.ref p) H') :
    if c = true then tLst tNil σ H Q else tM1 rSplitN (tVar 3) (tC (V.str " ")) σ H Q := by
  cases c with
  | true => exact iteT ⟨by show 0 ≤ sizeLine; decide, fun p hp => rest p _ [] (same_new hp) upd_same rfl⟩
  | false => exact iteF ⟨_, hv, ⟨s, rfl⟩, s, " ", rfl, rfl, by decide +kernel, Nat.le_trans (Nat.add_le_add_right hs 2) (by show 1002 ≤ sizeLine; decide), fun p hp => rest p _ _ (same_new hp) upd_same rfl⟩
theorem join_two (a x y : Str) : Txt.join a [x, y] = x ++ (a ++ y) := TL.ext_tl (by
  rw [TL.join_eq, TL.tl_join, TL.tl_append, TL.tl_append]
  rfl)
theorem join_nil (a : Str) : Txt.join a [] = Str.empty := TL.ext_tl (by rw [TL.join_eq, TL.tl_join]; rfl)
theorem app_emp (a : Str) : a ++ Str.empty = a := TL.ext_tl (by rw [TL.tl_append]; exact List.append_nil _)
theorem prT_eq (p : Pr) : prT p = (p.1 ++ ("!" : Str)) ++ p.2 := by
  unfold prT
  rw [emp_app]
theorem text_none {ms : List Str} : Txt.join " " ms ++ Str.empty = textM ms [] := by rw [app_emp, textM_nil]
theorem text_some {ms : List Str} (h : 1 ≤ ms.length) {pp : List Pr} (hp : pp ≠ []) : Txt.join " " ms ++ ((": " : Str) ++ Txt.join " " (pp.map prT)) = textM ms pp := by
  unfold textM
  have l : 0 < (pp.map prT).length := by
    rw [List.length_map]
    exact List.length_pos_iff.mpr hp
  have e : (([ms, pp.map prT] : List (List Str)).filter fun ws => decide (0 < ws.length)) = [ms, pp.map prT] := by
    have a : decide (0 < ms.length) = true := decide_eq_true h
    have b : decide (0 < (pp.map prT).length) = true := decide_eq_true l
    simp only [List.filter, a, b]
  rw [e]
  exact (join_two _ _ _).symm
theorem prs_text {pp : List Pr} (hp : pp ≠ []) : Txt.join " " (pp.map prT) ≠ Str.empty := fun z => by
  cases pp with
  | nil => exact hp rfl
  | cons p r =>
    have e := congrArg TL.tl z
    rw [TL.join_eq, TL.tl_join, List.map_cons, List.map_cons, prT_eq, TL.tl_append, TL.tl_append] at e
    cases r with
    | nil => simp [TL.joinL, TL.tl, Str.empty] at e; exact absurd e.2.1 (by decide +kernel)
    | cons q r =>
      rw [List.map_cons, List.map_cons, TL.joinL] at e
      have := congrArg List.length e
      have b : (TL.tl ("!" : Str)).length = 1 := by decide +kernel
      simp only [List.length_append, b] at this
      have c : (TL.tl Str.empty).length = 0 := rfl
      omega
def sp_lbent18 : Sp := fun vs H Q _ => ∃ (H0 : Hp) (p : Addr) (n : Nat) (t : Str), vs = [.ref p, .str t] ∧ BoxIn H0 H p n ∧ tOk t ∧ t.length ≤ 950 ∧ n + 3 < 1000000 ∧
  ∀ (H' : Hp) (u : Str), BoxIn H0 H' p (n + 3) → tOk u → u.length ≤ t.length + 7 → Q (.str u) H'
def sp_lisname (K : PySem.W.Frag) : Sp := fun vs H Q _ => ∃ t : Str, vs = [.str t] ∧ tOk t ∧ ∀ H', Same H H' → Q (.bl (nameS t)) H'
theorem cutl (x : Str) (i : Nat) : (cutS x none (some (i : Int))).length ≤ i := by
  show (((x.cps.toList.drop (HT.sIx x.length 0 none)).take (HT.sIx x.length x.length (some (i : Int)) - HT.sIx x.length 0 none)).toArray).size ≤ _
  rw [List.size_toArray, List.length_take, HT.sIx_none, HT.sIx_nat]
  omega
theorem cutr (x : Str) (j : Nat) : (cutS x (some (j : Int)) none).length ≤ x.length - j := by
  show (((x.cps.toList.drop (HT.sIx x.length 0 (some (j : Int)))).take (HT.sIx x.length x.length none - HT.sIx x.length 0 (some (j : Int)))).toArray).size ≤ _
  rw [List.size_toArray, List.length_take, HT.sIx_none, HT.sIx_nat]
  omega
def txS (ms : List Str) (ps : List Pr) : Str := textM ms (prsOf (ag ms ps) ms)
theorem prs_none (ms : List Str) : prsOf (ag ms []) ms = [] := by
  cases h : prsOf (ag ms []) ms with
  | nil => rfl
  | cons p r =>
    have hp : p ∈ prsOf (ag ms []) ms := by rw [h]; exact List.mem_cons_self
    obtain ⟨l, hl, hq⟩ := List.mem_flatten.mp hp
    obtain ⟨j, _, rfl⟩ := List.mem_map.mp hl
    obtain ⟨m, r', e, e1, e2, e3⟩ := mem_outP hq
    have := (List.mem_filter.mp e3).2
    simp [adj] at this
theorem txS_nil (ms : List Str) : txS ms [] = Txt.join " " ms := by
  unfold txS
  rw [prs_none, textM_nil]
theorem law_reads (t : Str) : lawP txS t = readT t := read_same txS txS_nil t
def sp_lread (K : PySem.W.Frag) : Sp := fun vs H Q _ => ∃ t : Str, vs = [.str t] ∧ tOk t ∧ (lawP txS t = none → ∀ H', Same H H' → Q .non H') ∧
  ∀ ms ps, lawP txS t = some (ms, ps) → ∀ (H' : Hp) (q l1 l2 : Addr), Same H H' → Model K H' q l1 l2 ms ps → (∀ s ∈ ms, nameS s = true) → ms.Nodup → 1 ≤ ms.length → ms.length ≤ 8 → okPs ms ps → Q (.ref q) H'
/-! ### the law's reading -/
def wsR : List Str → List Str
  | [] => []
  | b :: _ => Txt.split b " "
theorem lawP_eq (tx : List Str → List Pr → Str) {t h : Str} {r : List Str} (eh : Txt.split t ": " = h :: r) : lawP tx t = if r.length ≤ 1 ∧ okMB (Txt.split h " ") = true then (prsO (Txt.split h " ") (wsR r)).bind fun ps => if tx (Txt.split h " ") ps = t then some (Txt.split h " ", ps) else none else none := by
  unfold lawP
  rw [eh]
  by_cases c : okMB (Txt.split h " ") = true
  · match r with
    | [] => simp [c, wsR, prsO]
    | [b] => simp [c, wsR]
    | b :: d :: e => simp
  · match r with
    | [] => simp [c]
    | [b] => simp [c]
    | b :: d :: e => simp
theorem split_or_list {K : PySem.W.Frag} {σ : L2.St} {Q : VK} {H : Hp} {c : Bool} {q1 : Addr} {xs : List V} {ws : List Str} (hv : σ[1]? = some (some (.ref q1))) (sq : SqL K H q1 xs) (h1 : c = true → ∃ b, atI xs 1 = some (.str b) ∧ b.length ≤ 1000 ∧ ws = Txt.split b " ") (h2 : c = false → ws = [])
    (rest : ∀ p H', Same H H' → H p = none → H' p = some (.lst (ws.map V.str)) → Q (.ref p) H') : if c = true then tM1 rSplitN (tOp (rIxL K) (tVar 1) (tC (.int 1))) (tC (V.str " ")) σ H Q else tLst tNil σ H Q := by
  cases c with
  | true =>
    obtain ⟨b, e1, e2, rfl⟩ := h1 rfl
    exact iteT ⟨_, hv, q1, xs, 1, .str b, rfl, rfl, sq, e1, ⟨b, rfl⟩, b, " ", rfl, rfl, by decide +kernel, Nat.le_trans (Nat.add_le_add_right e2 2) (by show 1002 ≤ sizeLine; decide), fun p hp => rest p _ (same_new hp) hp upd_same⟩
  | false =>
    rw [h2 rfl] at rest
    exact iteF ⟨by show 0 ≤ sizeLine; decide, fun p hp => rest p _ (same_new hp) hp upd_same⟩
def badI (ms : List Str) (i : Nat) : Bool := !(nameS (ms.getD i Str.empty)) || decide (ms.getD i Str.empty ∈ ms.take i)
theorem badI_at {ms : List Str} {i : Nat} {w : Str} (h : ms[i]? = some w) : badI ms i = (!(nameS w) || decide (w ∈ ms.take i)) := by
  unfold badI
  rw [List.getD_eq_getElem?_getD, h]
  rfl
theorem names_bad (ms : List Str) : ((List.range ms.length).filter (badI ms)).isEmpty = (ms.all nameS && decide ms.Nodup) := by
  rw [Bool.eq_iff_iff, List.isEmpty_iff, List.filter_eq_nil_iff, Bool.and_eq_true, List.all_eq_true, decide_eq_true_iff]
  constructor
  · intro h
    have key : ∀ i w, ms[i]? = some w → nameS w = true ∧ w ∉ ms.take i := fun i w hw => by
      have := h i (List.mem_range.mpr (List.getElem?_eq_some_iff.mp hw).1)
      rw [badI_at hw] at this
      simpa using this
    refine ⟨fun s hs => ?_, List.pairwise_iff_getElem.mpr fun i j hi hj hij e => ?_⟩
    · obtain ⟨i, hi⟩ := List.mem_iff_getElem?.mp hs
      exact (key i s hi).1
    · refine (key j _ (List.getElem?_eq_getElem hj)).2 ?_
      rw [← e]
      exact List.mem_iff_getElem?.mpr ⟨i, by rw [List.getElem?_take_of_lt hij]; exact List.getElem?_eq_getElem hi⟩
  · rintro ⟨h1, h2⟩ i hi
    have hw := List.getElem?_eq_getElem (List.mem_range.mp hi)
    rw [badI_at hw, h1 _ (List.getElem_mem _)]
    rw [Bool.not_true, Bool.false_or, decide_eq_true_iff]
    intro hm
    obtain ⟨j, hj, e⟩ := List.mem_iff_getElem.mp hm
    rw [List.length_take] at hj
    rw [List.getElem_take] at e
    exact (List.pairwise_iff_getElem.mp h2) j i (by omega) (List.mem_range.mp hi) (by omega) e
/-! ### a text told is read back -/
theorem name_free {s : Str} (h : nameS s = true) {c : Nat} (hc : okSign c = false) : c ∉ TL.tl s := fun hm => by
  unfold nameS at h
  rw [Bool.and_eq_true, Bool.and_eq_true, Bool.and_eq_true] at h
  have := List.all_eq_true.mp h.2.2.2 c hm
  rw [hc] at this
  cases this
theorem join_free {c : Nat} {a : Str} (ha : c ∉ TL.tl a) {ys : List Str} (h : ∀ y ∈ ys, c ∉ TL.tl y) : c ∉ TL.tl (Txt.join a ys) := by
  rw [TL.join_eq, TL.tl_join]
  induction ys with
  | nil => exact fun z => (List.not_mem_nil z).elim
  | cons y r ih =>
    have ih := ih fun z hz => h z (List.mem_cons_of_mem _ hz)
    cases r with
    | nil => exact h y List.mem_cons_self
    | cons q r =>
      rw [List.map_cons, List.map_cons, TL.joinL]
      intro z
      rcases List.mem_append.mp z with z | z
      · exact h y List.mem_cons_self z
      · rcases List.mem_append.mp z with z | z
        · exact ha z
        · exact ih z
theorem tl_sp : TL.tl (" " : Str) = [32] := by decide +kernel
theorem tl_sep : TL.tl (": " : Str) = [58, 32] := by decide +kernel
theorem tl_bang : TL.tl ("!" : Str) = [33] := by decide +kernel
theorem prT_free {ms : List Str} (hn : ∀ s ∈ ms, nameS s = true) {p : Pr} (h : p.1 ∈ ms ∧ p.2 ∈ ms) : 32 ∉ TL.tl (prT p) := by
  rw [prT_eq, TL.tl_append, TL.tl_append, tl_bang]
  have h1 := name_free (hn _ h.1) (c := 32) (by decide +kernel)
  have h2 := name_free (hn _ h.2) (c := 32) (by decide +kernel)
  intro z
  rcases List.mem_append.mp z with z | z
  · rcases List.mem_append.mp z with z | z
    · exact h1 z
    · exact absurd z (by decide)
  · exact h2 z
theorem split_prT {ms : List Str} (hn : ∀ s ∈ ms, nameS s = true) {p : Pr} (h : p.1 ∈ ms ∧ p.2 ∈ ms) : Txt.split (prT p) "!" = [p.1, p.2] := by
  have e : prT p = Txt.join "!" [p.1, p.2] := by
    rw [prT_eq, join_two]
    exact TL.ext_tl (by rw [TL.tl_append, TL.tl_append, TL.tl_append, TL.tl_append, List.append_assoc])
  rw [e]
  exact TL.split_join tl_bang (by decide +kernel) (by simp) fun q hq => by
    simp only [List.mem_cons, List.not_mem_nil, or_false] at hq
    rcases hq with rfl | rfl
    · exact name_free (hn _ h.1) (by decide +kernel)
    · exact name_free (hn _ h.2) (by decide +kernel)
theorem prsO_told {ms : List Str} (hn : ∀ s ∈ ms, nameS s = true) : ∀ {pp : List Pr}, (∀ p ∈ pp, p.1 ∈ ms ∧ p.2 ∈ ms) → prsO ms (pp.map prT) = some pp
  | [], _ => rfl
  | p :: r, h => by
    have hp := h p List.mem_cons_self
    have ih := prsO_told hn fun q hq => h q (List.mem_cons_of_mem _ hq)
    have e : prO ms (prT p) = some p := by
      unfold prO
      rw [split_prT hn hp]
      exact if_pos hp
    rw [List.map_cons]
    unfold prsO
    rw [e, ih]
    rfl
theorem progP_told {ms : List Str} (hn : ∀ s ∈ ms, nameS s = true) (nd : ms.Nodup) (l1 : 1 ≤ ms.length) (l8 : ms.length ≤ 8) {pp : List Pr} (hp : ∀ p ∈ pp, p.1 ∈ ms ∧ p.2 ∈ ms) : progP (textM ms pp) = some (ms, pp) := by
  have ne : ms ≠ [] := fun z => by
    rw [z] at l1
    exact absurd l1 (by decide)
  have ok : okMB ms = true := by
    unfold okMB
    rw [Bool.and_eq_true, Bool.and_eq_true, decide_eq_true_iff, decide_eq_true_iff]
    exact ⟨List.all_eq_true.mpr hn, nd, l8⟩
  have sm : Txt.split (Txt.join " " ms) " " = ms := TL.split_join tl_sp (by decide +kernel) ne fun q hq => name_free (hn q hq) (by decide +kernel)
  have cf : 58 ∉ TL.tl (Txt.join " " ms) := join_free (by rw [tl_sp]; decide) fun y hy => name_free (hn y hy) (by decide +kernel)
  unfold progP
  by_cases c : pp = []
  · subst c
    rw [textM_nil, TL.partition_none tl_sep cf]
    show (if okMB (Txt.split (Txt.join " " ms) " ") = true then _ else _) = _
    rw [sm, if_pos ok, if_pos rfl]
    rfl
  · rw [← text_some l1 c]
    have ea : Txt.join " " ms ++ ((": " : Str) ++ Txt.join " " (pp.map prT)) = Txt.join " " ms ++ (": " : Str) ++ Txt.join " " (pp.map prT) := TL.ext_tl (by rw [TL.tl_append, TL.tl_append, TL.tl_append, TL.tl_append, List.append_assoc])
    rw [ea, TL.partition_app tl_sep cf]
    have sp : Txt.split (Txt.join " " (pp.map prT)) " " = pp.map prT := TL.split_join tl_sp (by decide +kernel) (by simpa using c) fun q hq => by
      obtain ⟨p, hp', rfl⟩ := List.mem_map.mp hq
      exact prT_free hn (hp p hp')
    show (if okMB (Txt.split (Txt.join " " ms) " ") = true then _ else _) = _
    rw [sm, if_pos ok, if_neg (prs_text c), sp, prsO_told hn hp]
    rfl
/-- the pairs that are told tell the same strengths -/
theorem ag_told {ms : List Str} (ps : List Pr) : ∀ m ∈ ms, ag ms (prsOf (ag ms ps) ms) m = ag ms ps m := by
  intro a ha
  refine ag_congr fun b hb => ?_
  obtain ⟨i, hi⟩ := List.mem_iff_getElem?.mp ha
  obtain ⟨j, hj⟩ := List.mem_iff_getElem?.mp hb
  have up : ∀ x y : Str, (x, y) ∈ prsOf (ag ms ps) ms → adj ps x y = true := fun x y h => by
    obtain ⟨l, hl, hp⟩ := List.mem_flatten.mp h
    obtain ⟨j, _, rfl⟩ := List.mem_map.mp hl
    obtain ⟨m, r, e, e1, e2, e3⟩ := mem_outP hp
    have e1 : x = m := e1
    subst e1
    exact (List.mem_filter.mp e3).2
  rw [Bool.eq_iff_iff]
  constructor
  · intro h
    unfold adj at h
    rw [Bool.or_eq_true, decide_eq_true_iff, decide_eq_true_iff] at h
    rcases h with h | h
    · exact up a b h
    · rw [adj_symm]
      exact up b a h
  · intro h
    unfold adj
    rw [Bool.or_eq_true, decide_eq_true_iff, decide_eq_true_iff]
    rcases Nat.le_total i j with l | l
    · exact .inl ((in_prs hi hj l).mpr ((mem_ag hb).mpr h))
    · exact .inr ((in_prs hj hi l).mpr ((mem_ag ha).mpr (by rw [adj_symm]; exact h)))
theorem readT_told {ms : List Str} (hn : ∀ s ∈ ms, nameS s = true) (nd : ms.Nodup) (l1 : 1 ≤ ms.length) (l8 : ms.length ≤ 8) (ps : List Pr) : readT (textM ms (prsOf (ag ms ps) ms)) = some (ms, prsOf (ag ms ps) ms) := by
  unfold readT
  rw [progP_told hn nd l1 l8 fun p hp => mem_prsOf hp]
  have e : prsOf (ag ms (prsOf (ag ms ps) ms)) ms = prsOf (ag ms ps) ms := prsOf_congr (ag_told ps)
  show (if textM ms (prsOf (ag ms (prsOf (ag ms ps) ms)) ms) = _ then _ else _) = _
  rw [e, if_pos rfl]
def sp_ltold18 (K : PySem.W.Frag) (C : Addr) : Sp := fun vs H Q _ => ∃ (v : V) (o : Option PyData), vs = [v] ∧ RV K C H v o ∧ (∀ t ms ps, o = some (.str t) → readT t = some (ms, ps) → ∀ H' q x, Same H H' → H' q = some (.lst [.str "read", .ref x]) → StrAt K C H' x ms (ag ms ps) → Q (.ref q) H') ∧
  ((∀ t, o = some (.str t) → readT t = none) → ∀ H' q, Same H H' → H' q = some (.lst [.str "text", v]) → Q (.ref q) H')
theorem told_len {ms : List Str} (hn : ∀ s ∈ ms, nameS s = true) (l8 : ms.length ≤ 8) (l1 : 1 ≤ ms.length) {pp : List Pr} (hp : ∀ p ∈ pp, p.1 ∈ ms ∧ p.2 ∈ ms) (l : pp.length ≤ 40) : tOk (textM ms pp) ∧ (textM ms pp).length ≤ 900 := by
  have p1 : ∀ y ∈ ms, y.length ≤ 8 := fun y hy => nameS_len (hn y hy)
  have p2 : ∀ y ∈ pp.map prT, y.length ≤ 17 := fun y hy => by
    obtain ⟨p, h, rfl⟩ := List.mem_map.mp hy
    have h1 := nameS_len (hn _ (hp p h).1)
    have h2 := nameS_len (hn _ (hp p h).2)
    have z1 : ("!" : Str).length = 1 := by decide +kernel
    rw [prT_eq, Str.length_append, Str.length_append]
    omega
  have zs : (" " : Str).length = 1 := by decide +kernel
  have zc : (": " : Str).length = 2 := by decide +kernel
  have s1 := sum_le ms 8 p1
  have s2 := sum_le (pp.map prT) 17 p2
  have j1 := join_len (" " : Str) ms
  have j2 := join_len (" " : Str) (pp.map prT)
  rw [List.length_map] at s2 j2
  rw [zs] at j1 j2
  have m1 : ms.length * 8 ≤ 8 * 8 := Nat.mul_le_mul_right _ l8
  have m2 : pp.length * 17 ≤ 40 * 17 := Nat.mul_le_mul_right _ l
  have key : (textM ms pp).length ≤ 900 := by
    by_cases c : pp = []
    · subst c
      rw [textM_nil]
      omega
    · rw [← text_some l1 c, Str.length_append, Str.length_append, zc]
      omega
  have ok1 : ∀ y ∈ ms, ∀ c ∈ TL.tl y, c < 0x110000 := fun y hy c hc => strOk_iff.mp (nameS_ok (hn y hy)) c hc
  have jn : ∀ (ys : List Str), (∀ y ∈ ys, ∀ c ∈ TL.tl y, c < 0x110000) → ∀ c ∈ TL.tl (Txt.join " " ys), c < 0x110000 := fun ys h c hc => Classical.byContradiction fun z => join_free (c := c) (by rw [tl_sp]; intro q; rw [List.mem_singleton.mp q] at z; exact z (by decide)) (fun y hy q => z (h y hy c q)) hc
  have ok2 : ∀ y ∈ pp.map prT, ∀ c ∈ TL.tl y, c < 0x110000 := fun y hy c hc => by
    obtain ⟨p, h, rfl⟩ := List.mem_map.mp hy
    rw [prT_eq, TL.tl_append, TL.tl_append, tl_bang] at hc
    rcases List.mem_append.mp hc with q | q
    · rcases List.mem_append.mp q with q | q
      · exact ok1 _ (hp p h).1 c q
      · rw [List.mem_singleton.mp q]
        decide
    · exact ok1 _ (hp p h).2 c q
  refine ⟨⟨Nat.le_trans key (by decide), strOk_iff.mpr fun c hc => ?_⟩, key⟩
  have hc : c ∈ TL.tl (textM ms pp) := hc
  by_cases e : pp = []
  · subst e
    rw [textM_nil] at hc
    exact jn ms ok1 c hc
  · rw [← text_some l1 e, TL.tl_append, TL.tl_append, tl_sep] at hc
    rcases List.mem_append.mp hc with q | q
    · exact jn ms ok1 c q
    · rcases List.mem_append.mp q with q | q
      · simp only [List.mem_cons, List.not_mem_nil, or_false] at q
        rcases q with rfl | rfl
        all_goals decide
      · exact jn _ ok2 c q
theorem outP_len {f : Str → List Str} : ∀ {l : List Str}, (outP f l).length ≤ l.length
  | [] => Nat.zero_le _
  | m :: r => by
    show (((m :: r).filter _).map _).length ≤ _
    rw [List.length_map]
    exact List.length_filter_le _ _
theorem prs36 (f : Str → List Str) {ms : List Str} (l8 : ms.length ≤ 8) : (prsOf f ms).length ≤ 40 := by
  have key : ∀ i, i ≤ ms.length → 2 * (prsA f ms i).length ≤ i * (2 * ms.length + 1 - i) := fun i => by
    induction i with
    | zero => exact fun _ => Nat.zero_le _
    | succ i ih =>
      intro hi
      have ih := ih (by omega)
      have o := outP_len (f := f) (l := ms.drop i)
      rw [List.length_drop] at o
      rw [prsA_succ, List.length_append]
      have hm : ms.length ≤ 8 := l8
      generalize ms.length = n at *
      generalize (prsA f ms i).length = x at *
      generalize (outP f (ms.drop i)).length = y at *
      have : n = 0 ∨ n = 1 ∨ n = 2 ∨ n = 3 ∨ n = 4 ∨ n = 5 ∨ n = 6 ∨ n = 7 ∨ n = 8 := by omega
      have hi8 : i = 0 ∨ i = 1 ∨ i = 2 ∨ i = 3 ∨ i = 4 ∨ i = 5 ∨ i = 6 ∨ i = 7 := by omega
      rcases this with rfl | rfl | rfl | rfl | rfl | rfl | rfl | rfl | rfl <;> rcases hi8 with rfl | rfl | rfl | rfl | rfl | rfl | rfl | rfl <;> omega
  have := key ms.length (Nat.le_refl _)
  have e : 2 * ms.length + 1 - ms.length = ms.length + 1 := by omega
  rw [e] at this
  have m : ms.length * (ms.length + 1) ≤ 8 * 9 := Nat.mul_le_mul l8 (by omega)
  unfold prsOf
  omega
theorem odd_none : readT "" = none ∧ readT " " = none ∧ readT ": a!a" = none ∧ readT "a a" = none := by decide +kernel
theorem readT_text {u : Str} {ms : List Str} {ps : List Pr} (h : readT u = some (ms, ps)) : textM ms (prsOf (ag ms ps) ms) = u := by
  unfold readT at h
  cases e : progP u with
  | none =>
    rw [e] at h
    cases h
  | some r =>
    rw [e] at h
    have h : (if textM r.1 (prsOf (ag r.1 r.2) r.1) = u then some r else none) = some (ms, ps) := h
    by_cases c : textM r.1 (prsOf (ag r.1 r.2) r.1) = u
    · rw [if_pos c] at h
      injection h with h
      rw [h] at c
      exact c
    · rw [if_neg c] at h
      cases h
theorem progP_ok {t : Str} {ms : List Str} {ps : List Pr} (h : progP t = some (ms, ps)) : okMB ms = true := by
  unfold progP at h
  by_cases c : okMB (Txt.split (Txt.partition t ": ").1 " ") = true
  · rw [if_pos c] at h
    generalize prsO _ _ = z at h
    cases z with
    | none => cases h
    | some y =>
      injection h with h
      injection h with h1 h2
      rw [← h1]
      exact c
  · rw [if_neg c] at h
    cases h
theorem okM_len {ms : List Str} (h : okMB ms = true) : ms.length ≤ 8 := by
  unfold okMB at h
  rw [Bool.and_eq_true, Bool.and_eq_true, decide_eq_true_iff (p := ms.length ≤ 8)] at h
  exact h.2.2
theorem readT_of {t : Str} {ms : List Str} {ps : List Pr} (h : progP t = some (ms, ps)) : readT t = if textM ms (prsOf (ag ms ps) ms) = t then some (ms, ps) else none := by
  unfold readT
  rw [h]
  rfl
theorem readT_no {t : Str} (h : progP t = none) : readT t = none := by
  unfold readT
  rw [h]
  rfl
/-- what the top has written -/
structure Txt (K : PySem.W.Frag) (mg : Str → Option Value) where
  f_wall : Addr
  fd_wall : FuncData
  F_wall : Fun K "_wall" "_wall" s_wall f_wall fd_wall
  b_wall : Binds K fd_wall ["k"] []
  m_wall : mg "_wall" = some (.ref f_wall)
  f_InvalidName_init : Addr
  fd_InvalidName_init : FuncData
  F_InvalidName_init : Fun K "__init__" "InvalidName.__init__" s_InvalidName_init f_InvalidName_init fd_InvalidName_init
  b_InvalidName_init : Binds K fd_InvalidName_init ["self", "value"] []
  f_InvalidModes_init : Addr
  fd_InvalidModes_init : FuncData
  F_InvalidModes_init : Fun K "__init__" "InvalidModes.__init__" s_InvalidModes_init f_InvalidModes_init fd_InvalidModes_init
  b_InvalidModes_init : Binds K fd_InvalidModes_init ["self", "value"] []
  f_InvalidClash_init : Addr
  fd_InvalidClash_init : FuncData
  F_InvalidClash_init : Fun K "__init__" "InvalidClash.__init__" s_InvalidClash_init f_InvalidClash_init fd_InvalidClash_init
  b_InvalidClash_init : Binds K fd_InvalidClash_init ["self", "value"] []
  f_InvalidStrengths_init : Addr
  fd_InvalidStrengths_init : FuncData
  F_InvalidStrengths_init : Fun K "__init__" "InvalidStrengths.__init__" s_InvalidStrengths_init f_InvalidStrengths_init fd_InvalidStrengths_init
  b_InvalidStrengths_init : Binds K fd_InvalidStrengths_init ["self", "value"] []
  f_InvalidText_init : Addr
  fd_InvalidText_init : FuncData
  F_InvalidText_init : Fun K "__init__" "InvalidText.__init__" s_InvalidText_init f_InvalidText_init fd_InvalidText_init
  b_InvalidText_init : Binds K fd_InvalidText_init ["self", "value"] []
  f_Duplicate_init : Addr
  fd_Duplicate_init : FuncData
  F_Duplicate_init : Fun K "__init__" "Duplicate.__init__" s_Duplicate_init f_Duplicate_init fd_Duplicate_init
  b_Duplicate_init : Binds K fd_Duplicate_init ["self", "name"] []
  f_UnknownMode_init : Addr
  fd_UnknownMode_init : FuncData
  F_UnknownMode_init : Fun K "__init__" "UnknownMode.__init__" s_UnknownMode_init f_UnknownMode_init fd_UnknownMode_init
  b_UnknownMode_init : Binds K fd_UnknownMode_init ["self", "name"] []
  f_is_name : Addr
  fd_is_name : FuncData
  F_is_name : Fun K "is_name" "is_name" s_is_name f_is_name fd_is_name
  b_is_name : Binds K fd_is_name ["value"] []
  m_is_name : mg "is_name" = some (.ref f_is_name)
  f_require_name : Addr
  fd_require_name : FuncData
  F_require_name : Fun K "require_name" "require_name" s_require_name f_require_name fd_require_name
  b_require_name : Binds K fd_require_name ["value"] []
  m_require_name : mg "require_name" = some (.ref f_require_name)
  f_Strengths_init : Addr
  fd_Strengths_init : FuncData
  F_Strengths_init : Fun K "__init__" "Strengths.__init__" s_Strengths_init f_Strengths_init fd_Strengths_init
  b_Strengths_init : Binds K fd_Strengths_init ["self", "modes", "clashes"] []
  f_Strengths_modes : Addr
  fd_Strengths_modes : FuncData
  F_Strengths_modes : Fun K "modes" "Strengths.modes" s_Strengths_modes f_Strengths_modes fd_Strengths_modes
  b_Strengths_modes : Binds K fd_Strengths_modes ["self"] []
  f_Strengths_len : Addr
  fd_Strengths_len : FuncData
  F_Strengths_len : Fun K "__len__" "Strengths.__len__" s_Strengths_len f_Strengths_len fd_Strengths_len
  b_Strengths_len : Binds K fd_Strengths_len ["self"] []
  f_Strengths_clash : Addr
  fd_Strengths_clash : FuncData
  F_Strengths_clash : Fun K "clash" "Strengths.clash" s_Strengths_clash f_Strengths_clash fd_Strengths_clash
  b_Strengths_clash : Binds K fd_Strengths_clash ["self", "one", "other"] []
  f_Strengths_weaker : Addr
  fd_Strengths_weaker : FuncData
  F_Strengths_weaker : Fun K "weaker" "Strengths.weaker" s_Strengths_weaker f_Strengths_weaker fd_Strengths_weaker
  b_Strengths_weaker : Binds K fd_Strengths_weaker ["self", "one", "other"] []
  f_Strengths_clashes : Addr
  fd_Strengths_clashes : FuncData
  F_Strengths_clashes : Fun K "clashes" "Strengths.clashes" s_Strengths_clashes f_Strengths_clashes fd_Strengths_clashes
  b_Strengths_clashes : Binds K fd_Strengths_clashes ["self"] []
  f_Strengths_eq : Addr
  fd_Strengths_eq : FuncData
  F_Strengths_eq : Fun K "__eq__" "Strengths.__eq__" s_Strengths_eq f_Strengths_eq fd_Strengths_eq
  b_Strengths_eq : Binds K fd_Strengths_eq ["self", "other"] []
  f_Strengths_weakest : Addr
  fd_Strengths_weakest : FuncData
  F_Strengths_weakest : Fun K "weakest" "Strengths.weakest" s_Strengths_weakest f_Strengths_weakest fd_Strengths_weakest
  b_Strengths_weakest : Binds K fd_Strengths_weakest ["self"] []
  f_Strengths_strongest : Addr
  fd_Strengths_strongest : FuncData
  F_Strengths_strongest : Fun K "strongest" "Strengths.strongest" s_Strengths_strongest f_Strengths_strongest fd_Strengths_strongest
  b_Strengths_strongest : Binds K fd_Strengths_strongest ["self"] []
  f_Strengths_steps_down : Addr
  fd_Strengths_steps_down : FuncData
  F_Strengths_steps_down : Fun K "steps_down" "Strengths.steps_down" s_Strengths_steps_down f_Strengths_steps_down fd_Strengths_steps_down
  b_Strengths_steps_down : Binds K fd_Strengths_steps_down ["self", "mode"] []
  f_Strengths_str : Addr
  fd_Strengths_str : FuncData
  F_Strengths_str : Fun K "__str__" "Strengths.__str__" s_Strengths_str f_Strengths_str fd_Strengths_str
  b_Strengths_str : Binds K fd_Strengths_str ["self"] []
  f_Strengths_require_mode : Addr
  fd_Strengths_require_mode : FuncData
  F_Strengths_require_mode : Fun K "_require_mode" "Strengths._require_mode" s_Strengths_require_mode f_Strengths_require_mode fd_Strengths_require_mode
  b_Strengths_require_mode : Binds K fd_Strengths_require_mode ["self", "value"] []
  f_Strengths_below : Addr
  fd_Strengths_below : FuncData
  F_Strengths_below : Fun K "_below" "Strengths._below" s_Strengths_below f_Strengths_below fd_Strengths_below
  b_Strengths_below : Binds K fd_Strengths_below ["self", "one", "other"] []
  f_require_modes : Addr
  fd_require_modes : FuncData
  F_require_modes : Fun K "require_modes" "require_modes" s_require_modes f_require_modes fd_require_modes
  b_require_modes : Binds K fd_require_modes ["modes"] []
  m_require_modes : mg "require_modes" = some (.ref f_require_modes)
  f_require_clashes : Addr
  fd_require_clashes : FuncData
  F_require_clashes : Fun K "require_clashes" "require_clashes" s_require_clashes f_require_clashes fd_require_clashes
  b_require_clashes : Binds K fd_require_clashes ["clashes", "modes"] []
  m_require_clashes : mg "require_clashes" = some (.ref f_require_clashes)
  f_clashing_modes : Addr
  fd_clashing_modes : FuncData
  F_clashing_modes : Fun K "clashing_modes" "clashing_modes" s_clashing_modes f_clashing_modes fd_clashing_modes
  b_clashing_modes : Binds K fd_clashing_modes ["mode", "modes", "clashes"] []
  m_clashing_modes : mg "clashing_modes" = some (.ref f_clashing_modes)
  f_read_strengths : Addr
  fd_read_strengths : FuncData
  F_read_strengths : Fun K "read_strengths" "read_strengths" s_read_strengths f_read_strengths fd_read_strengths
  b_read_strengths : Binds K fd_read_strengths ["text"] []
  m_read_strengths : mg "read_strengths" = some (.ref f_read_strengths)
  f_parsed_strengths : Addr
  fd_parsed_strengths : FuncData
  F_parsed_strengths : Fun K "parsed_strengths" "parsed_strengths" s_parsed_strengths f_parsed_strengths fd_parsed_strengths
  b_parsed_strengths : Binds K fd_parsed_strengths ["text"] []
  m_parsed_strengths : mg "parsed_strengths" = some (.ref f_parsed_strengths)
  f_law_cell : Addr
  fd_law_cell : FuncData
  F_law_cell : Fun K "_law_cell" "_law_cell" s_law_cell f_law_cell fd_law_cell
  b_law_cell : Binds K fd_law_cell ["_law_script", "_law_k"] []
  m_law_cell : mg "_law_cell" = some (.ref f_law_cell)
  f_law_box : Addr
  fd_law_box : FuncData
  F_law_box : Fun K "_law_box" "_law_box" s_law_box f_law_box fd_law_box
  b_law_box : Binds K fd_law_box ["_law_cell_here"] []
  m_law_box : mg "_law_box" = some (.ref f_law_box)
  f_law_take : Addr
  fd_law_take : FuncData
  F_law_take : Fun K "_law_take" "_law_take" s_law_take f_law_take fd_law_take
  b_law_take : Binds K fd_law_take ["_law_box_here", "_law_many"] []
  m_law_take : mg "_law_take" = some (.ref f_law_take)
  f_law_mixed : Addr
  fd_law_mixed : FuncData
  F_law_mixed : Fun K "_law_mixed" "_law_mixed" s_law_mixed f_law_mixed fd_law_mixed
  b_law_mixed : Binds K fd_law_mixed ["_law_box_here", "_law_some"] []
  m_law_mixed : mg "_law_mixed" = some (.ref f_law_mixed)
  f_law_names : Addr
  fd_law_names : FuncData
  F_law_names : Fun K "_law_names" "_law_names" s_law_names f_law_names fd_law_names
  b_law_names : Binds K fd_law_names ["_law_box_here", "_law_many"] []
  m_law_names : mg "_law_names" = some (.ref f_law_names)
  f_law_modes : Addr
  fd_law_modes : FuncData
  F_law_modes : Fun K "_law_modes" "_law_modes" s_law_modes f_law_modes fd_law_modes
  b_law_modes : Binds K fd_law_modes ["_law_box_here", "_law_most"] []
  m_law_modes : mg "_law_modes" = some (.ref f_law_modes)
  f_law_against : Addr
  fd_law_against : FuncData
  F_law_against : Fun K "_law_against" "_law_against" s_law_against f_law_against fd_law_against
  b_law_against : Binds K fd_law_against ["_law_model", "_law_mode"] []
  m_law_against : mg "_law_against" = some (.ref f_law_against)
  f_law_pairs : Addr
  fd_law_pairs : FuncData
  F_law_pairs : Fun K "_law_pairs" "_law_pairs" s_law_pairs f_law_pairs fd_law_pairs
  b_law_pairs : Binds K fd_law_pairs ["_law_model"] []
  m_law_pairs : mg "_law_pairs" = some (.ref f_law_pairs)
  f_law_text : Addr
  fd_law_text : FuncData
  F_law_text : Fun K "_law_text" "_law_text" s_law_text f_law_text fd_law_text
  b_law_text : Binds K fd_law_text ["_law_model"] []
  m_law_text : mg "_law_text" = some (.ref f_law_text)
  f_law_is_name : Addr
  fd_law_is_name : FuncData
  F_law_is_name : Fun K "_law_is_name" "_law_is_name" s_law_is_name f_law_is_name fd_law_is_name
  b_law_is_name : Binds K fd_law_is_name ["_law_value"] []
  m_law_is_name : mg "_law_is_name" = some (.ref f_law_is_name)
  f_law_read : Addr
  fd_law_read : FuncData
  F_law_read : Fun K "_law_read" "_law_read" s_law_read f_law_read fd_law_read
  b_law_read : Binds K fd_law_read ["_law_text_here"] []
  m_law_read : mg "_law_read" = some (.ref f_law_read)
  f_law_told : Addr
  fd_law_told : FuncData
  F_law_told : Fun K "_law_told" "_law_told" s_law_told f_law_told fd_law_told
  b_law_told : Binds K fd_law_told ["_law_value"] []
  m_law_told : mg "_law_told" = some (.ref f_law_told)
  f_law_bent : Addr
  fd_law_bent : FuncData
  F_law_bent : Fun K "_law_bent" "_law_bent" s_law_bent f_law_bent fd_law_bent
  b_law_bent : Binds K fd_law_bent ["_law_box_here", "_law_text_here"] []
  m_law_bent : mg "_law_bent" = some (.ref f_law_bent)
  f_law : Addr
  fd_law : FuncData
  F_law : Fun K "law" "law" s_law f_law fd_law
  b_law : Binds K fd_law ["_law_script"] []
  m_law : mg "law" = some (.ref f_law)
  C_PartsError : Addr
  g_PartsError : mg "PartsError" = some (.ref C_PartsError)
  C_InvalidName : Addr
  g_InvalidName : mg "InvalidName" = some (.ref C_InvalidName)
  x_InvalidName : OexC K C_InvalidName
  y_InvalidName : XfC K C_InvalidName
  n_InvalidName : PySem.W.findIn K (.ref C_InvalidName) "value" = some none
  i_InvalidName : PySem.W.findIn K (.ref C_InvalidName) "__init__" = some (some (.ref f_InvalidName_init))
  t_InvalidName : PySem.W.typeIn K (.ref f_InvalidName_init) = some (.type "function")
  C_InvalidModes : Addr
  g_InvalidModes : mg "InvalidModes" = some (.ref C_InvalidModes)
  x_InvalidModes : OexC K C_InvalidModes
  y_InvalidModes : XfC K C_InvalidModes
  n_InvalidModes : PySem.W.findIn K (.ref C_InvalidModes) "value" = some none
  i_InvalidModes : PySem.W.findIn K (.ref C_InvalidModes) "__init__" = some (some (.ref f_InvalidModes_init))
  t_InvalidModes : PySem.W.typeIn K (.ref f_InvalidModes_init) = some (.type "function")
  C_InvalidClash : Addr
  g_InvalidClash : mg "InvalidClash" = some (.ref C_InvalidClash)
  x_InvalidClash : OexC K C_InvalidClash
  y_InvalidClash : XfC K C_InvalidClash
  n_InvalidClash : PySem.W.findIn K (.ref C_InvalidClash) "value" = some none
  i_InvalidClash : PySem.W.findIn K (.ref C_InvalidClash) "__init__" = some (some (.ref f_InvalidClash_init))
  t_InvalidClash : PySem.W.typeIn K (.ref f_InvalidClash_init) = some (.type "function")
  C_InvalidStrengths : Addr
  g_InvalidStrengths : mg "InvalidStrengths" = some (.ref C_InvalidStrengths)
  x_InvalidStrengths : OexC K C_InvalidStrengths
  y_InvalidStrengths : XfC K C_InvalidStrengths
  n_InvalidStrengths : PySem.W.findIn K (.ref C_InvalidStrengths) "value" = some none
  i_InvalidStrengths : PySem.W.findIn K (.ref C_InvalidStrengths) "__init__" = some (some (.ref f_InvalidStrengths_init))
  t_InvalidStrengths : PySem.W.typeIn K (.ref f_InvalidStrengths_init) = some (.type "function")
  C_InvalidText : Addr
  g_InvalidText : mg "InvalidText" = some (.ref C_InvalidText)
  x_InvalidText : OexC K C_InvalidText
  y_InvalidText : XfC K C_InvalidText
  n_InvalidText : PySem.W.findIn K (.ref C_InvalidText) "value" = some none
  i_InvalidText : PySem.W.findIn K (.ref C_InvalidText) "__init__" = some (some (.ref f_InvalidText_init))
  t_InvalidText : PySem.W.typeIn K (.ref f_InvalidText_init) = some (.type "function")
  C_Duplicate : Addr
  g_Duplicate : mg "Duplicate" = some (.ref C_Duplicate)
  x_Duplicate : OexC K C_Duplicate
  y_Duplicate : XfC K C_Duplicate
  n_Duplicate : PySem.W.findIn K (.ref C_Duplicate) "name" = some none
  i_Duplicate : PySem.W.findIn K (.ref C_Duplicate) "__init__" = some (some (.ref f_Duplicate_init))
  t_Duplicate : PySem.W.typeIn K (.ref f_Duplicate_init) = some (.type "function")
  C_UnknownMode : Addr
  g_UnknownMode : mg "UnknownMode" = some (.ref C_UnknownMode)
  x_UnknownMode : OexC K C_UnknownMode
  y_UnknownMode : XfC K C_UnknownMode
  n_UnknownMode : PySem.W.findIn K (.ref C_UnknownMode) "name" = some none
  i_UnknownMode : PySem.W.findIn K (.ref C_UnknownMode) "__init__" = some (some (.ref f_UnknownMode_init))
  t_UnknownMode : PySem.W.typeIn K (.ref f_UnknownMode_init) = some (.type "function")
  C_Strengths : Addr
  g_Strengths : mg "Strengths" = some (.ref C_Strengths)
  cl_Strengths : Cls K C_Strengths
  mk_Strengths : Mk K C_Strengths f_Strengths_init
  ic_Strengths : C8.InsC K C_Strengths
  me_Strengths_init : Meth K C_Strengths "__init__" f_Strengths_init
  me_Strengths_modes : Meth K C_Strengths "modes" f_Strengths_modes
  me_Strengths_len : Meth K C_Strengths "__len__" f_Strengths_len
  me_Strengths_clash : Meth K C_Strengths "clash" f_Strengths_clash
  me_Strengths_weaker : Meth K C_Strengths "weaker" f_Strengths_weaker
  me_Strengths_clashes : Meth K C_Strengths "clashes" f_Strengths_clashes
  me_Strengths_eq : Meth K C_Strengths "__eq__" f_Strengths_eq
  me_Strengths_weakest : Meth K C_Strengths "weakest" f_Strengths_weakest
  me_Strengths_strongest : Meth K C_Strengths "strongest" f_Strengths_strongest
  me_Strengths_steps_down : Meth K C_Strengths "steps_down" f_Strengths_steps_down
  me_Strengths_str : Meth K C_Strengths "__str__" f_Strengths_str
  me_Strengths_require_mode : Meth K C_Strengths "_require_mode" f_Strengths_require_mode
  me_Strengths_below : Meth K C_Strengths "_below" f_Strengths_below
  no_Strengths_modes : NoAttr K C_Strengths "_modes"
  no_Strengths_against : NoAttr K C_Strengths "_against"
  io_Strengths_list : PySem.W.kitOne K (.type "list") (.ref C_Strengths) = some false
  nf_Strengths_list : PySem.W.notFirst K C_Strengths (.type "list") = true
  io_Strengths_str : PySem.W.kitOne K (.type "str") (.ref C_Strengths) = some false
  nf_Strengths_str : PySem.W.notFirst K C_Strengths (.type "str") = true
  io_own_Strengths_str : PySem.W.kitOne K (.ref C_Strengths) (.type "str") = some false
  e_InvalidModes_PartsError : PySem.W.exmOne K (.ref C_InvalidModes) (.ref C_PartsError) = some true
  e_InvalidName_PartsError : PySem.W.exmOne K (.ref C_InvalidName) (.ref C_PartsError) = some true
  e_Duplicate_PartsError : PySem.W.exmOne K (.ref C_Duplicate) (.ref C_PartsError) = some true
  e_InvalidStrengths_PartsError : PySem.W.exmOne K (.ref C_InvalidStrengths) (.ref C_PartsError) = some true
  e_InvalidClash_PartsError : PySem.W.exmOne K (.ref C_InvalidClash) (.ref C_PartsError) = some true
  e_UnknownMode_PartsError : PySem.W.exmOne K (.ref C_UnknownMode) (.ref C_PartsError) = some true
  e_InvalidText_InvalidText : PySem.W.exmOne K (.ref C_InvalidText) (.ref C_InvalidText) = some true
  t_LONGEST_NAME : Tok
  c_LONGEST_NAME : mg "LONGEST_NAME" = some (.int 8 t_LONGEST_NAME)
  t_MOST_MODES : Tok
  c_MOST_MODES : mg "MOST_MODES" = some (.int 8 t_MOST_MODES)
  z_all : mg "all" = none
  z_isinstance : mg "isinstance" = none
  z_str : mg "str" = none
  z_len : mg "len" = none
  z_list : mg "list" = none
  z_enumerate : mg "enumerate" = none
  z_tuple : mg "tuple" = none
  z_max : mg "max" = none
  z_range : mg "range" = none
  z_min : mg "min" = none

def C6 {K : PySem.W.Frag} {mg : Str → Option Value} (T : Txt K mg) : Nat → Addr
  | 0 => T.C_InvalidModes
  | 1 => T.C_InvalidName
  | 2 => T.C_Duplicate
  | 3 => T.C_InvalidStrengths
  | 4 => T.C_InvalidClash
  | _ => T.C_UnknownMode
section
variable {P : Program} {w : World} {K : PySem.W.Frag} {mg : Str → Option Value} {base : Heap}
theorem ok_law_cell (T : Txt K mg) : FnOk P w K mg base CX0 1 T.f_law_cell T.fd_law_cell ["_law_script", "_law_k"] (sp_law_cell K) := by
  refine T.F_law_cell.ok sc_law_cell (fun vs H Q E h => ?_) (fun cdv A outer s H vs Q E hr h => ?_)
  · obtain ⟨a, ns, k, rfl, _⟩ := h
    rfl
  · obtain ⟨a, ns, k, rfl, hS, hk, kq⟩ := h
    refine ⟨_, (pss_cons (ps_if (pt_cmpR op_lt (pv 1) (pe_callB (id := "len") call_len_seq (by rfl) T.z_len (by decide +kernel) (pa_cons (pv 0) pa_nil)) (nomark _)) (pss_one (ps_ret (pe_ix ix_list (pv 0) (pv 1) (fun _ _ => rfl)))) pss_nil)
        (pss_one (ps_ret (pe_op op_add (pe_op op_mul pe_int (pv 1)) pe_int)))), ?_⟩
    refine ⟨_, rfl, _, rfl, a, _, rfl, .inl hS, _, _, rfl, rfl, _, rfl, ?_⟩
    refine ite2 (fun c => ?_) (fun c => ?_)
    · have c' := of_decide_eq_true c
      rw [List.length_map] at c'
      obtain ⟨j, rfl⟩ := Int.eq_ofNat_of_zero_le hk
      have hj : j < ns.length := by omega
      refine ⟨_, rfl, _, rfl, a, _, _, .int ns[j], rfl, rfl, hS, atI_nat (by rw [List.getElem?_map, List.getElem?_eq_getElem hj]; rfl), kq _⟩
    · refine ⟨_, rfl, _, _, rfl, rfl, .inl ⟨by decide, by decide⟩, _, _, rfl, rfl, kq _⟩
theorem ok_law_box (T : Txt K mg) : FnOk P w K mg base CX0 1 T.f_law_box T.fd_law_box ["_law_cell_here"] sp_law_box := by
  refine T.F_law_box.ok sc_law_box (fun vs H Q E h => ?_) (fun cdv A outer s H vs Q E hr h => ?_)
  · obtain ⟨z, rfl, _⟩ := h
    rfl
  · obtain ⟨z, rfl, k⟩ := h
    refine ⟨_, (pss_one (ps_ret (pe_lst (pa_cons (pe_callB (id := "max") (call_max2 rfl) (by rfl) T.z_max (by decide +kernel) (pa_cons pe_int (pa_cons (pe_op op_sub (pv 0) (pe_op op_pow pe_int pe_int)) pa_nil))) (pa_cons (pe_op op_mod (pv 0) pe_int) (pa_cons pe_int pa_nil)))))), ?_⟩
    refine ⟨_, rfl, _, _, rfl, rfl, ⟨by decide, by decide, by decide⟩, _, _, rfl, rfl, _, _, rfl, ?_⟩
    refine ⟨_, rfl, _, _, rfl, rfl, (by show (0 : Int) < 2147483629; decide), (by show 3 ≤ sizeLine; decide), fun p hp => ?_⟩
    refine k p _ hp ⟨_, _, _, upd_same, ?_, Int.emod_nonneg _ (by decide), Int.emod_lt_of_pos _ (by decide), by decide, by decide⟩
    by_cases c : z - 10 ^ (18 : Int).toNat > 0
    · rw [if_pos c]
      omega
    · rw [if_neg c]
      exact Int.le_refl _
theorem ok_law_take (T : Txt K mg) : FnOk P w K mg base CX0 1 T.f_law_take T.fd_law_take ["_law_box_here", "_law_many"] sp_law_take := by
  refine T.F_law_take.ok sc_law_take (fun vs H Q E h => ?_) (fun cdv A outer s H vs Q E hr h => ?_)
  · obtain ⟨H0, p, n, m, rfl, _⟩ := h
    rfl
  · obtain ⟨H0, p, n, m, rfl, B, hn, hm, hm2, k⟩ := h
    obtain ⟨d, s, c, hp, hd, hs, hs2, hc, hc2⟩ := B.box
    have hL : SqL K H p [.int d, .int s, .int c] := SqL.of hp
    have nx : ∀ (d' c' : Int), 0 ≤ d' → 0 ≤ c' → c' ≤ c + 1 → BoxIn H0 (upd H p (.lst [.int d', .int s, .int c'])) p (n + 1) := fun d' c' h1 h2 h3 =>
      ⟨fun x u e => by rw [upd_ne (ne_of_none e B.free)]; exact B.same _ _ e, B.free, d', s, c', upd_same, h1, hs, hs2, h2, by omega⟩
    refine ⟨_, (pss_cons (ps_if (pt_cmpR op_gt (pe_ix ix_list (pv 0) pe_int (fun _ _ => rfl)) pe_int (nomark _)) (pss_cons (ps_set (i := 2) sc_law_take.nd rfl (Or.inl rfl) (pe_op op_mod (pe_ix ix_list (pv 0) pe_int (fun _ _ => rfl)) (pv 1)))
        (pss_cons (ps_asg (pe_op op_fdiv (pe_ix ix_list (pv 0) pe_int (fun _ _ => rfl)) (pv 1)) (pg_sub (pv 0) pe_int set_list))
        (pss_one (ps_ret (pv 2))))) pss_nil)
        (pss_cons (ps_asg (pe_op op_add (pe_ix ix_list (pv 0) pe_int (fun _ _ => rfl)) pe_int) (pg_sub (pv 0) pe_int set_list))
        (pss_cons (ps_set (i := 3) sc_law_take.nd rfl (Or.inl rfl) (pe_op op_mod (pe_op op_pow (pe_op op_add (pe_op op_add (pe_ix ix_list (pv 0) pe_int (fun _ _ => rfl)) (pe_op op_mul pe_int (pe_ix ix_list (pv 0) pe_int (fun _ _ => rfl)))) pe_int) pe_int) pe_int))
        (pss_cons (ps_set (i := 3) sc_law_take.nd rfl (Or.inl rfl) (pe_op op_mod (pe_op op_pow (pe_op op_add (pv 3) (pe_op op_mul pe_int (pe_ix ix_list (pv 0) pe_int (fun _ _ => rfl)))) pe_int) pe_int))
        (pss_one (ps_ret (pe_op op_mod (pe_op op_fdiv (pv 3) pe_int) (pv 1)))))))), ?_⟩
    refine ⟨_, rfl, p, _, _, _, rfl, rfl, hL, atI_nat (j := 0) rfl, _, _, rfl, rfl, _, rfl, ?_⟩
    refine ite2 (fun c0 => ?_) (fun c0 => ?_)
    · have c0' := of_decide_eq_true c0
      refine ⟨_, rfl, p, _, _, _, rfl, rfl, hL, atI_nat (j := 0) rfl, _, rfl, _, _, rfl, rfl, hm, ?_⟩
      refine ⟨_, rfl, p, _, _, _, rfl, rfl, hL, atI_nat (j := 0) rfl, _, rfl, _, _, rfl, rfl, ⟨hm, by omega⟩, ?_⟩
      refine ⟨_, rfl, p, _, _, 0, rfl, rfl, hp, rfl, ?_⟩
      refine ⟨_, rfl, k _ _ (Int.emod_nonneg _ (by omega)) (Int.emod_lt_of_pos _ hm) (nx _ _ (Int.ediv_nonneg hd (by omega)) hc (by omega))⟩
    · refine ⟨_, rfl, p, _, _, _, rfl, rfl, hL, atI_nat (j := 2) rfl, _, _, rfl, rfl, ?_⟩
      refine ⟨_, rfl, p, _, _, 2, rfl, rfl, hp, rfl, ?_⟩
      have hL' : SqL K (upd H p (.lst [.int d, .int s, .int (c + 1)])) p [.int d, .int s, .int (c + 1)] := SqL.of upd_same
      refine ⟨_, rfl, p, _, _, _, rfl, rfl, hL', atI_nat (j := 1) rfl, _, rfl, p, _, _, _, rfl, rfl, hL', atI_nat (j := 2) rfl, _, _, rfl, rfl, .inl ⟨by decide, by decide⟩, _, _, rfl, rfl, _, _, rfl, rfl, _, _, rfl, rfl, ⟨by decide, by decide, by omega⟩, _, _, rfl, rfl, (by show (0 : Int) < 2147483647; decide), ?_⟩
      have h1 := Int.emod_nonneg ((s + 7919 * (c + 1) + 43) ^ (5 : Int).toNat) (show (2147483647 : Int) ≠ 0 by decide)
      have h2 := Int.emod_lt_of_pos ((s + 7919 * (c + 1) + 43) ^ (5 : Int).toNat) (show (0 : Int) < 2147483647 by decide)
      refine ⟨_, rfl, _, rfl, p, _, _, _, rfl, rfl, hL', atI_nat (j := 2) rfl, _, _, rfl, rfl, .inl ⟨by decide, by decide⟩, _, _, rfl, rfl, _, _, rfl, rfl, ⟨by decide, by decide, by omega⟩, _, _, rfl, rfl, (by show (0 : Int) < 2147483587; decide), ?_⟩
      refine ⟨_, rfl, _, _, rfl, rfl, ⟨by decide, by decide⟩, _, rfl, _, _, rfl, rfl, hm, ?_⟩
      exact k _ _ (Int.emod_nonneg _ (by omega)) (Int.emod_lt_of_pos _ hm) (nx _ _ hd (by omega) (by omega))
theorem ok_law_mixed (T : Txt K mg) : FnOk P w K mg base CX0 2 T.f_law_mixed T.fd_law_mixed ["_law_box_here", "_law_some"] sp_mixed := by
  refine T.F_law_mixed.ok sc_law_mixed (fun vs H Q E h => ?_) (fun cdv A outer s H vs Q E hr h => ?_)
  · obtain ⟨H0, p, l, n, xs, rfl, _⟩ := h
    rfl
  · obtain ⟨H0, p, l, n, xs, rfl, B, hl, hz, hn, k⟩ := h
    refine ⟨_, (pss_cons (ps_set (i := 2) sc_law_mixed.nd rfl (Or.inr rfl) (pe_callTy (T := "list") call_list_of (by rfl) T.z_list (by decide +kernel) (pa_cons (pv 1) pa_nil)))
        (pss_one (ps_ret (pe_lc (own := [("_law_k", 3)]) (g := gName 3) (tt := tYes) rfl sc_law_mixed.nd (pi_range1 rfl T.z_range (pa_cons (pe_callB (id := "len") call_len_seq (by rfl) T.z_len (by decide +kernel) (pa_cons (pv 1) pa_nil)) pa_nil)) (blkOk_by (own := [("_law_k", 3)]) (N := ["_law_box_here", "_law_some", "_law_left", "_law_k"]) (sc := defScope s_law_mixed) (by decide +kernel)) (fun _ _ _ _ _ => (pg_name (i := 3) sc_law_mixed.nd rfl (Or.inl rfl))) (fun _ _ _ _ _ => pts_nil) (fun _ _ _ _ _ => (show PE _ _ (tBM K "list" rPopAt _ _) from (pe_bm PySem.F.plainAttrs_list PySem.F.slot_list_pop PySem.F.type_list_pop (r := rPopAt) mt_popAt (pv 2) (pa_cons (pe_call (ok_law_take T) hr rfl T.m_law_take T.F_law_take.kp T.b_law_take .nil pass0 (pa_cons (pv 0) (pa_cons (pe_callB (id := "len") (r := fun xs H Q => ∃ p ys, xs = [.ref p] ∧ (SqL K H p ys ∨ SqT K H p ys) ∧ Q (.int ys.length) H) call_len_seq (by rfl) T.z_len (by decide +kernel) (pa_cons (pv 2) pa_nil)) pa_nil))) pa_nil)))))))), ?_⟩
    have hS : SqL K H l xs := SqL.of hl
    have pn : ∀ {H' : Hp} {m : Nat}, BoxIn H0 H' p m → ∀ {t : Addr}, H' t = none → t ≠ p := fun {H' m} b {t} h => by
      obtain ⟨_, _, _, hp, _⟩ := b.box
      exact (ne_of_none hp h).symm
    refine ⟨_, rfl, l, xs, rfl, .inl hS, fun t ht => ?_⟩
    have htp := pn B ht
    have nlt : l ≠ t := ne_of_none hl ht
    have B1 : BoxIn H0 (upd H t (.lst xs)) p n := B.keep (same_new ht)
    refine ⟨_, rfl, l, xs, rfl, .inl (SqL.of (by rw [upd_ne nlt]; exact hl)), xs.length, rfl, by omega, by omega, fun D hD => ?_⟩
    have hDp := pn B1 hD
    have hDt : D ≠ t := fun e => by
      rw [e, upd_same] at hD
      cases hD
    have hD0 : H0 D = none := B1.same.free hD
    have ht0 : H0 t = none := B.same.free ht
    refine lc_range (fun i H2 => ∃ acc left : List V, H2 D = some (.lst acc) ∧ acc.length = i ∧ H2 t = some (.lst left) ∧ (acc ++ left).Perm xs ∧ BoxIn H0 H2 p (n + i)) ⟨[], xs, upd_same, rfl, by rw [upd_ne hDt.symm, upd_same], List.Perm.refl _, B1.mut hDp hD0⟩ ?_ ?_
    · rintro i H2 hi ⟨acc, left, hl2, hy, ht2, hpm, B2⟩
      have hll : left.length = xs.length - i := by
        have := hpm.length_eq
        rw [List.length_append] at this
        omega
      have B2' := B2.all
      refine ⟨rfl, tyes ⟨_, rfl, .inl ⟨rfl, _, .inl (.inl ht2)⟩, _, rfl, _, rfl, t, left, rfl, .inl (SqL.of ht2), but H2 p, p, _, _, rfl, B2'.1, by omega, by omega, by omega, fun z H3 z0 z1 B3 => ?_⟩⟩
      obtain ⟨j, rfl⟩ := Int.eq_ofNat_of_zero_le z0
      have hj : j < left.length := by omega
      have ht3 : H3 t = some (.lst left) := B3.same _ _ (by rw [but_ne htp]; exact ht2)
      have hl3 : H3 D = some (.lst acc) := B3.same _ _ (by rw [but_ne hDp]; exact hl2)
      have hsi : seqIndex? (j : Int) left.length = some j := by
        unfold seqIndex?
        have e1 : ¬ ((j : Int) < 0) := by omega
        simp only [e1, if_false]
        rw [if_pos (by simp; omega)]
        simp
      refine ⟨t, left, (j : Int), j, left[j], rfl, rfl, ht3, by omega, by omega, hsi, List.getElem?_eq_getElem hj, acc, by rw [upd_ne hDt]; exact hl3, Nat.lt_of_lt_of_le (show acc.length < 200 by omega) (by decide), acc ++ [left[j]], left.eraseIdx j, upd_same, by simp [hy], by rw [upd_ne hDt.symm, upd_same], ?_, ?_⟩
      · refine List.Perm.trans ?_ hpm
        rw [List.append_assoc]
        refine List.Perm.append_left _ ?_
        rw [List.eraseIdx_eq_take_drop_succ]
        have e : left = left.take j ++ left[j] :: left.drop (j + 1) := by
          rw [List.getElem_cons_drop, List.take_append_drop]
        have q : (left.take j ++ left[j] :: left.drop (j + 1)).Perm (left[j] :: (left.take j ++ left.drop (j + 1))) := List.perm_middle
        exact q.symm.trans (List.Perm.of_eq e.symm)
      · exact ((B3.low B2'.2).mut htp ht0).mut hDp hD0
    · rintro H2 ⟨acc, left, hl2, hy, ht2, hpm, B2⟩
      have e : left = [] := by
        have := hpm.length_eq
        rw [List.length_append] at this
        exact List.length_eq_zero_iff.mp (by omega)
      rw [e, List.append_nil] at hpm
      exact k D H2 acc B2.same hD0 hDp hl2 hpm B2
theorem ok_law_names (T : Txt K mg) : FnOk P w K mg base CX0 3 T.f_law_names T.fd_law_names ["_law_box_here", "_law_many"] sp_names := by
  refine T.F_law_names.ok sc_law_names (fun vs H Q E h => ?_) (fun cdv A outer s H vs Q E hr h => ?_)
  · obtain ⟨H0, p, n, m, rfl, _⟩ := h
    rfl
  · obtain ⟨H0, p, n, m, rfl, B, hm, hn, k⟩ := h
    refine ⟨_, (pss_cons (ps_set (i := 2) sc_law_names.nd rfl (Or.inl rfl) pe_str)
        (pss_cons (ps_if (pt_cmpR op_eq (pe_call (ok_law_take T) (hr.mono (by decide)) rfl T.m_law_take T.F_law_take.kp T.b_law_take .nil pass0 (pa_cons (pv 0) (pa_cons pe_int pa_nil))) pe_int (nomark _)) (pss_cons (ps_set (i := 3) sc_law_names.nd rfl (Or.inl rfl) (pe_lst (pa_cons pe_str (pa_cons pe_str (pa_cons pe_str (pa_cons pe_str (pa_cons pe_str (pa_cons pe_str (pa_cons pe_str (pa_cons pe_str (pa_cons pe_str (pa_cons pe_str (pa_cons pe_str (pa_cons pe_str (pa_cons pe_str pa_nil)))))))))))))))
        (pss_one (ps_ret (pe_slice sl_list (pe_call (ok_law_mixed T) hr rfl T.m_law_mixed T.F_law_mixed.kp T.b_law_mixed .nil pass0 (pa_cons (pv 0) (pa_cons (pv 3) pa_nil))) po_none (po_some (pv 1)))))) pss_nil)
        (pss_cons (ps_set (i := 4) sc_law_names.nd rfl (Or.inl rfl) (pe_ix ix_list (pe_lst (pa_cons pe_str (pa_cons pe_str (pa_cons pe_str (pa_cons pe_str (pa_cons pe_str (pa_cons pe_str pa_nil))))))) (pe_call (ok_law_take T) (hr.mono (by decide)) rfl T.m_law_take T.F_law_take.kp T.b_law_take .nil pass0 (pa_cons (pv 0) (pa_cons pe_int pa_nil))) (fun _ _ => rfl)))
        (pss_cons (ps_par3 (i := 5) (j := 6) (l := 7) (by rfl) sc_law_names.nd rfl rfl rfl (by decide) (by decide) (by decide) rfl rfl rfl (pa_cons (pe_call (ok_law_take T) (hr.mono (by decide)) rfl T.m_law_take T.F_law_take.kp T.b_law_take .nil pass0 (pa_cons (pv 0) (pa_cons pe_int pa_nil))) (pa_cons (pe_ix ix_list (pe_lst (pa_cons pe_int (pa_cons pe_int (pa_cons pe_int (pa_cons pe_int (pa_cons pe_int (pa_cons pe_int pa_nil))))))) (pe_call (ok_law_take T) (hr.mono (by decide)) rfl T.m_law_take T.F_law_take.kp T.b_law_take .nil pass0 (pa_cons (pv 0) (pa_cons pe_int pa_nil))) (fun _ _ => rfl)) (pa_cons (pe_call (ok_law_take T) (hr.mono (by decide)) rfl T.m_law_take T.F_law_take.kp T.b_law_take .nil pass0 (pa_cons (pv 0) (pa_cons pe_int pa_nil))) pa_nil))) (by rfl))
        (pss_cons (ps_set (i := 8) sc_law_names.nd rfl (Or.inl rfl) (pe_lst pa_nil))
        (pss_cons (ps_for PassesOwn.never rfl (pi_range1 rfl T.z_range (pa_cons (pv 1) pa_nil)) (pg_name (i := 9) sc_law_names.nd rfl (Or.inl rfl))
          (pss_cons (ps_set (i := 10) sc_law_names.nd rfl (Or.inl rfl) (pe_ix ix_str (pv 2) (pe_op op_mod (pe_op op_add (pv 5) (pe_op op_mul (pv 6) (pv 9))) pe_int) (fun _ _ => rfl)))
        (pss_cons (ps_set (i := 11) sc_law_names.nd rfl (Or.inl rfl) (pe_ix ix_list (pe_lst (pa_cons (pe_op op_add_str (pv 4) (pv 10)) (pa_cons (pe_op op_add_str (pv 10) (pv 4)) (pa_cons (pv 10) pa_nil)))) (pe_ifExp (pt_cmpR op_gt (pv 9) pe_int (nomark _)) (pv 7) pe_int) (fun _ _ => rfl)))
        (pss_one (ps_expr (pe_bm PySem.F.plainAttrs_list PySem.F.slot_list_append PySem.F.type_list_append mt_append (pv 8) (pa_cons (pe_ifExp (pt_cmpR op_eq (pv 11) pe_str (nomark _)) pe_str (pv 11)) pa_nil)))))))
        (pss_one (ps_ret (pv 8))))))))), ?_⟩
    have pn : ∀ {H0 H' : Hp} {m : Nat}, BoxIn H0 H' p m → ∀ {t : Addr}, H' t = none → t ≠ p := fun {H0 H' m} b {t} h => by
      obtain ⟨_, _, _, hp, _⟩ := b.box
      exact (ne_of_none hp h).symm
    refine ⟨_, rfl, H0, p, n, 7, rfl, B, by omega, by decide, by decide, fun z1 H1 z10 z11 B1 => ⟨rfl, _, rfl, ?_⟩⟩
    refine ite2 (fun c => ?_) (fun c => ?_)
    · refine ⟨(by show 13 ≤ sizeLine; decide), fun l hl => ?_⟩
      have B2 := B1.keep (same_new (o := .lst ((["begin", "empty", "rest", "step", "end", "look", "old", "new", "put", "part", "move", "split", "lock"] : List Str).map V.str)) hl)
      have hlp := pn B1 hl
      refine ⟨_, rfl, _, rfl, H0, p, l, _, (["begin", "empty", "rest", "step", "end", "look", "old", "new", "put", "part", "move", "split", "lock"] : List Str).map V.str, rfl, B2, upd_same, by decide, by show n + 1 + 13 < 1000000; omega, fun q H3 ys s3 hq0 hqp hq3 hpm B3 => ?_⟩
      obtain ⟨ss, rfl, hss⟩ := strs_of (xs := ys) (W := ["begin", "empty", "rest", "step", "end", "look", "old", "new", "put", "part", "move", "split", "lock"]) fun y hy => by
        obtain ⟨s, hs, e⟩ := List.mem_map.mp (hpm.mem_iff.mp hy)
        exact ⟨s, hs, e.symm⟩
      have hlen : ss.length = 13 := by
        have := hpm.length_eq
        rw [List.length_map, List.length_map] at this
        exact this
      refine ⟨_, rfl, m, rfl, q, _, rfl, SqL.of hq3, fun r hr => ?_⟩
      have e : cutV (ss.map V.str) none (some (m : Int)) = (ss.take m).map V.str := by
        unfold cutV
        rw [HT.sIx_none, HT.sIx_nat, List.length_map, hlen, List.drop_zero, Nat.sub_zero, List.map_take, Nat.min_eq_left hm]
      rw [e]
      have all : ∀ s ∈ (["begin", "empty", "rest", "step", "end", "look", "old", "new", "put", "part", "move", "split", "lock"] : List Str), sOk 16 s := by
        unfold sOk
        decide +kernel
      have nd : ss.Nodup := nodup_of_map (hpm.nodup_iff.mpr (nodup_map wordsL_ok.2))
      refine k r _ (ss.take m) (s3.trans (same_new hr)) (s3.free hr) (pn B3 hr) upd_same ?_ (fun s hs => all s (hss s (List.mem_of_mem_take hs))) (fun s hs => wordsL_ok.1 s (hss s (List.mem_of_mem_take hs))) (List.Pairwise.sublist (List.take_sublist _ _) nd) ((B3.keep (same_new hr)).mono (by show n + 1 + 13 ≤ n + 40; omega))
      rw [List.length_take, hlen]
      omega
    · refine ⟨(by show 6 ≤ sizeLine; decide), fun l hl => ?_⟩
      have B2 := B1.new (o := .lst ((["", "a", "tabl", "rest", "part", "zzzzzzz"] : List Str).map V.str)) hl
      refine ⟨_, rfl, _, p, _, 6, rfl, B2.1, by omega, by decide, by decide, fun z2 H2 z20 z21 B3 => ?_⟩
      obtain ⟨v, hv, hm1⟩ := atI_in (xs := (["", "a", "tabl", "rest", "part", "zzzzzzz"] : List Str).map V.str) z20 z21
      refine ⟨l, _, z2, v, rfl, rfl, SqL.of (B3.same _ _ upd_same), hv, ?_⟩
      obtain ⟨stem, hst, rfl⟩ := List.mem_map.mp hm1
      have hstem : sOk 7 stem := by
        have all : ∀ s ∈ (["", "a", "tabl", "rest", "part", "zzzzzzz"] : List Str), sOk 7 s := by
          unfold sOk
          decide +kernel
        exact all _ hst
      have B4 := B3.low B2.2
      refine ⟨_, rfl, H0, p, _, 26, rfl, B4, by omega, by decide, by decide, fun zf H3 zf0 zf1 B5 => ?_⟩
      refine ⟨(by show 6 ≤ sizeLine; decide), fun l2 hl2 => ?_⟩
      have B6 := B5.new (o := .lst ([1, 3, 5, 7, 9, 11].map V.int)) hl2
      refine ⟨_, rfl, _, p, _, 6, rfl, B6.1, by omega, by decide, by decide, fun z3 H4 z30 z31 B7 => ?_⟩
      obtain ⟨v3, hv3, hm3⟩ := atI_in (xs := ([1, 3, 5, 7, 9, 11] : List Int).map V.int) z30 z31
      refine ⟨l2, _, z3, v3, rfl, rfl, SqL.of (B7.same _ _ upd_same), hv3, ?_⟩
      obtain ⟨stp, hstp, rfl⟩ := List.mem_map.mp hm3
      have B8 := B7.low B6.2
      refine ⟨_, rfl, H0, p, _, 3, rfl, B8, by omega, by decide, by decide, fun zw H5 zw0 zw1 B9 => ⟨_, _, _, rfl, ?_⟩⟩
      refine ⟨(by show 0 ≤ sizeLine; decide), fun f hf => ?_⟩
      have hfp := pn B9 hf
      have hf0 : H0 f = none := B9.same.free hf
      refine ⟨_, rfl, m, rfl, ?_, ?_, for_range (fun i σ H' => ∃ (v3 v9 v10 v11 : Option V) (ss : List Str), σ = [some (.ref p), some (.int m), some (.str "abcdefghijklmnopqrstuvwxyz"), v3, some (.str stem), some (.int zf), some (.int stp), some (.int zw), some (.ref f), v9, v10, v11] ∧ H' f = some (.lst (ss.map V.str)) ∧ ss.length = i ∧ (∀ s ∈ ss, sOk 16 s) ∧ ss = (List.range i).map (nmS stem zf stp zw) ∧ BoxIn H0 H' p (n + 5)) ⟨_, none, none, none, [], rfl, upd_same, rfl, (fun s h => by cases h), rfl, B9.mut hfp hf0⟩ ?_ ?_⟩
      · omega
      · omega
      · rintro i σ H6 hi ⟨v3, v9, v10, v11, ss, rfl, hff, hlen, hok, hss, C⟩
        have hstp2 : 0 ≤ stp ∧ stp ≤ 11 := by
          have all : ∀ i ∈ ([1, 3, 5, 7, 9, 11] : List Int), 0 ≤ i ∧ i ≤ 11 := by decide
          exact all _ hstp
        refine ⟨_, rfl, _, rfl, _, rfl, _, rfl, _, _, rfl, rfl, .inl ⟨by omega, by omega⟩, _, _, rfl, rfl, _, _, rfl, rfl, (by show (0 : Int) < 26; decide), ?_⟩
        have e26 : ("abcdefghijklmnopqrstuvwxyz" : Str).cps.toList.length = 26 := by decide +kernel
        obtain ⟨ch, hch, hmc⟩ := atI_in (xs := ("abcdefghijklmnopqrstuvwxyz" : Str).cps.toList) (z := (zf + stp * (0 + (i : Int))) % 26) (Int.emod_nonneg _ (by decide)) (by rw [e26]; exact Int.emod_lt_of_pos _ (by decide))
        have hch2 := letter_at (Int.emod_nonneg _ (by decide)) (Int.emod_lt_of_pos _ (by decide)) hch
        rw [Int.zero_add] at hch2
        have hsg : sOk 1 (⟨#[ch]⟩ : Str) := by
          refine ⟨Nat.le_refl _, strOk_sign ?_⟩
          have all : ∀ c ∈ ("abcdefghijklmnopqrstuvwxyz" : Str).cps.toList, c < 0x110000 := by decide +kernel
          exact all _ hmc
        refine ⟨_, _, ch, rfl, rfl, by decide +kernel, hch, ?_⟩
        have l1 : stem.length + (⟨#[ch]⟩ : Str).length ≤ sizeLine := Nat.le_trans (Nat.add_le_add hstem.1 hsg.1) (by decide)
        have l2' : (⟨#[ch]⟩ : Str).length + stem.length ≤ sizeLine := Nat.le_trans (Nat.add_le_add hsg.1 hstem.1) (by decide)
        refine ⟨_, rfl, _, rfl, _, _, rfl, rfl, l1, _, rfl, _, rfl, _, _, rfl, rfl, l2', _, rfl, (by show 3 ≤ sizeLine; decide), fun l3 hl3 => ?_⟩
        have hfl3 : f ≠ l3 := ne_of_none hff hl3
        have C2 := C.keep (same_new (o := .lst [V.str (stem ++ ⟨#[ch]⟩), .str ((⟨#[ch]⟩ : Str) ++ stem), .str ⟨#[ch]⟩]) hl3)
        have pick : ∀ z : Int, 0 ≤ z → z < 3 → ∃ s : Str, atI [V.str (stem ++ ⟨#[ch]⟩), .str ((⟨#[ch]⟩ : Str) ++ stem), .str ⟨#[ch]⟩] z = some (.str s) ∧ sOk 16 s ∧ nmC stem z.toNat (97 + ((zf + stp * (i : Int)) % 26).toNat) = (if s = ("table" : Str) then ("tables" : Str) else s) := fun z z0 z3 => by
          obtain ⟨v, hv, hm⟩ := atI_in (xs := [V.str (stem ++ ⟨#[ch]⟩), .str ((⟨#[ch]⟩ : Str) ++ stem), .str ⟨#[ch]⟩]) z0 z3
          simp only [List.mem_cons, List.not_mem_nil, or_false] at hm
          rcases hm with rfl | rfl | rfl
          · exact ⟨_, hv, (hstem.app hsg).mono (by decide), by rw [form_at z0 z3 hv, ← hch2]; rfl⟩
          · exact ⟨_, hv, (hsg.app hstem).mono (by decide), by rw [form_at z0 z3 hv, ← hch2]; rfl⟩
          · exact ⟨_, hv, hsg.mono (by decide), by rw [form_at z0 z3 hv, ← hch2]; rfl⟩
        have hff2 : upd H6 l3 (.lst [V.str (stem ++ ⟨#[ch]⟩), .str ((⟨#[ch]⟩ : Str) ++ stem), .str ⟨#[ch]⟩]) f = some (.lst (ss.map V.str)) := by rw [upd_ne hfl3]; exact hff
        have hsz : (ss.map V.str).length < sizeLine := by
          rw [List.length_map, hlen]
          exact Nat.lt_of_lt_of_le (show i < 100 by omega) (by decide)
        have nx : ∀ s : Str, sOk 16 s → s = nmS stem zf stp zw i → upd (upd H6 l3 (.lst [V.str (stem ++ ⟨#[ch]⟩), .str ((⟨#[ch]⟩ : Str) ++ stem), .str ⟨#[ch]⟩])) f (.lst (ss.map V.str ++ [V.str s])) f = some (.lst ((ss ++ [s]).map V.str)) ∧ (ss ++ [s]).length = i + 1 ∧ (∀ x ∈ ss ++ [s], sOk 16 x) ∧ ss ++ [s] = (List.range (i + 1)).map (nmS stem zf stp zw) ∧
            BoxIn H0 (upd (upd H6 l3 (.lst [V.str (stem ++ ⟨#[ch]⟩), .str ((⟨#[ch]⟩ : Str) ++ stem), .str ⟨#[ch]⟩])) f (.lst (ss.map V.str ++ [V.str s]))) p (n + 5) := fun s hs he => by
          refine ⟨by rw [upd_same, List.map_append]; rfl, by simp [hlen], fun x hx => ?_, by rw [List.range_succ, List.map_append, ← hss, he]; rfl, C2.mut hfp hf0⟩
          rcases List.mem_append.mp hx with q | q
          · exact hok x q
          · rw [List.mem_singleton.mp q]
            exact hs
        refine ⟨_, rfl, _, _, rfl, rfl, _, rfl, ?_⟩
        refine ite2 (fun c => ?_) (fun c => ?_)
        · have i0 : i ≠ 0 := by
            have := of_decide_eq_true c
            omega
          obtain ⟨nm, hnm, hok2, hf2⟩ := pick zw zw0 zw1
          have hnn : nmS stem zf stp zw i = if nm = ("table" : Str) then ("tables" : Str) else nm := by
            unfold nmS
            rw [if_neg i0]
            exact hf2
          refine ⟨_, rfl, l3, _, zw, _, rfl, rfl, SqL.of upd_same, hnm, ?_⟩
          refine ⟨_, rfl, .inl ⟨rfl, _, .inl (.inl hff2)⟩, _, rfl, rfl, _, rfl, ?_⟩
          refine ite2 (fun c => ?_) (fun c => ?_)
          · have ct : nm = ("table" : Str) := by
              have := of_decide_eq_true c
              injection this
            obtain ⟨n1, n2, n3, n4, n5⟩ := nx "tables" (by unfold sOk; decide +kernel) (by rw [hnn, if_pos ct])
            exact ⟨f, _, _, rfl, rfl, hff2, hsz, _, _, _, _, _, rfl, n1, n2, n3, n4, n5⟩
          · have ct : nm ≠ ("table" : Str) := fun e => c (by rw [e]; exact decide_eq_true rfl)
            obtain ⟨n1, n2, n3, n4, n5⟩ := nx nm hok2 (by rw [hnn, if_neg ct])
            exact ⟨_, rfl, f, _, _, rfl, rfl, hff2, hsz, _, _, _, _, _, rfl, n1, n2, n3, n4, n5⟩
        · have i0 : i = 0 := by
            by_cases h : i = 0
            · exact h
            · exact absurd (decide_eq_true (by omega)) c
          obtain ⟨nm, hnm, hok2, hf2⟩ := pick 0 (by decide) (by decide)
          have hnn : nmS stem zf stp zw i = if nm = ("table" : Str) then ("tables" : Str) else nm := by
            unfold nmS
            rw [if_pos i0]
            exact hf2
          refine ⟨l3, _, 0, _, rfl, rfl, SqL.of upd_same, hnm, ?_⟩
          refine ⟨_, rfl, .inl ⟨rfl, _, .inl (.inl hff2)⟩, _, rfl, rfl, _, rfl, ?_⟩
          refine ite2 (fun c => ?_) (fun c => ?_)
          · have ct : nm = ("table" : Str) := by
              have := of_decide_eq_true c
              injection this
            obtain ⟨n1, n2, n3, n4, n5⟩ := nx "tables" (by unfold sOk; decide +kernel) (by rw [hnn, if_pos ct])
            exact ⟨f, _, _, rfl, rfl, hff2, hsz, _, _, _, _, _, rfl, n1, n2, n3, n4, n5⟩
          · have ct : nm ≠ ("table" : Str) := fun e => c (by rw [e]; exact decide_eq_true rfl)
            obtain ⟨n1, n2, n3, n4, n5⟩ := nx nm hok2 (by rw [hnn, if_neg ct])
            exact ⟨_, rfl, f, _, _, rfl, rfl, hff2, hsz, _, _, _, _, _, rfl, n1, n2, n3, n4, n5⟩
      · rintro σ H6 ⟨v3, v9, v10, v11, ss, rfl, hff, hlen, hok, hss, C⟩
        refine ⟨_, rfl, ?_⟩
        have fin : ss = (List.range m).map (nmS stem zf stp zw) := by
          rw [hss]
          congr 2
        exact k f H6 ss C.same hf0 hfp hff (by rw [hlen]; simp) hok (fun s hs => by
          rw [fin] at hs
          obtain ⟨j, _, rfl⟩ := List.mem_map.mp hs
          exact nmS_ok hst zw0 zw1 j) (by rw [fin]; exact nmS_nodup hst hstp zw0 zw1 hm) (C.mono (by omega))
theorem ok_is_name (T : Txt K mg) : FnOk P w K mg base CX0 1 T.f_is_name T.fd_is_name ["value"] (sp_v1 K nameO) := by
  refine T.F_is_name.ok sc_is_name (fun vs H Q E h => ?_) (fun cdv A outer s H vs Q E hr h => ?_)
  · obtain ⟨v, o, rfl, _⟩ := h
    rfl
  · obtain ⟨v, o, rfl, hv, k⟩ := h
    have ty := hv.ty
    refine ⟨_, (pss_cons (ps_if (PW.pt (pw_or (pt_not (pt_val (pe_callB (id := "isinstance") call_isi (by rfl) T.z_isinstance (by decide +kernel) (pa_cons (pv 0) (pa_cons (pe_bltn (v := .ty "str") (u := .type "str") (by rfl) T.z_str (by decide +kernel) rfl) pa_nil))))) (pw_or1 (pt_cmpR op_eq (pv 0) pe_str (nomark _))))) (pss_one (ps_ret pe_bl)) pss_nil)
        (pss_one (ps_ret (pe_and (pe_chain op_le op_le pe_int (pe_callB (id := "len") call_len_str (by rfl) T.z_len (by decide +kernel) (pa_cons (pv 0) pa_nil)) (pe_glob (v := .int 8) rfl T.c_LONGEST_NAME ⟨_, rfl⟩)) (pe_one (pe_callB (id := "all") (cr_all rfl) (by rfl) T.z_all (by decide +kernel) (pa_cons (pe_lc (own := [("sign", 1)]) (g := gName 1) (tt := tYes) rfl sc_is_name.nd (pi_str (pv 0)) (blkOk_by (own := [("sign", 1)]) (N := ["value", "sign"]) (sc := defScope s_is_name) (by decide +kernel)) (fun _ _ _ _ _ => (pg_name (i := 1) sc_is_name.nd rfl (Or.inl rfl))) (fun _ _ _ _ _ => pts_nil) (fun _ _ _ _ _ => (pe_chain op_le_str op_le_str pe_str (pv 1) pe_str))) pa_nil))))))), ?_⟩
    refine ⟨_, rfl, _, _, _, _, _, rfl, .ty _, ty, kit_o o (.inr (.inr (.inl rfl))), _, rfl, ?_⟩
    cases e : isT "str" o with
    | false =>
      have e2 : nameO o = false := by
        rcases o with _ | d
        · rfl
        · cases d with
          | str s => cases e
          | _ => rfl
      rw [e2] at k
      exact iteT (iteT (k H (Same.refl H)))
    | true =>
      obtain ⟨s, rfl, rfl, hs⟩ : ∃ s, v = .str s ∧ o = some (.str s) ∧ s.length ≤ 1000 := by
        cases hv with
        | dat a _ c =>
          cases a with
          | str s => exact ⟨s, rfl, rfl, c s rfl⟩
          | _ => cases e
        | dic a => cases e
      have hz : s.length ≤ sizeLine := Nat.le_trans hs (by decide)
      refine iteF ⟨_, rfl, rfl, _, rfl, ?_⟩
      have k : ∀ H', Same H H' → Q (.bl (nameS s)) H' := k
      unfold nameS at k
      rw [dec_str]
      cases e1 : s == ("table" : Str) with
      | true =>
        rw [e1] at k
        exact iteT (k H (Same.refl H))
      | false =>
        rw [e1] at k
        refine iteF ?_
        have k : ∀ H', Same H H' → Q (.bl (decide ((1 : Int) ≤ s.length) && (decide ((s.length : Int) ≤ 8) && s.cps.toList.all okSign))) H' := k
        refine ⟨_, rfl, _, rfl, hz, _, _, rfl, rfl, _, rfl, ?_⟩
        cases e2 : decide ((1 : Int) ≤ s.length) with
        | false =>
          rw [e2] at k
          exact iteF ⟨_, rfl, iteF (k H (Same.refl H))⟩
        | true =>
          rw [e2] at k
          refine iteT ⟨_, _, rfl, rfl, _, rfl, ?_⟩
          cases e3 : decide ((s.length : Int) ≤ 8) with
          | false =>
            rw [e3] at k
            exact iteF (k H (Same.refl H))
          | true =>
            rw [e3] at k
            refine iteT ⟨_, rfl, _, rfl, ?_⟩
            intro D hD
            refine lc_acc walk_str hD (fun _ _ => trivial) (fun i => (s.cps.toList.take i).map fun c => V.bl (okSign c)) rfl (fun i hi => ?_) ?_ ?_
            · rw [List.length_map, List.length_take]
              have : s.cps.size ≤ 1000 := hs
              exact Nat.lt_of_le_of_lt (Nat.min_le_left _ _) (Nat.lt_of_lt_of_le hi (Nat.le_trans this (by decide)))
            · rintro i x H2 hi ⟨c, hc, rfl⟩ s1 R S r1 r2
              have ea : ((s.cps.toList.take (i + 1)).map fun c => V.bl (okSign c)) = ((s.cps.toList.take i).map fun c => V.bl (okSign c)) ++ [V.bl (okSign c)] := by
                have hc' : s.cps.toList[i]? = some c := by rw [Array.getElem?_toList]; exact hc
                rw [List.take_add_one, hc']
                simp
              refine ⟨rfl, tyes ⟨_, rfl, _, _, rfl, rfl, _, rfl, ?_⟩⟩
              have ec : okSign c = (!decide (([c] : List Nat) < [97]) && !decide (([122] : List Nat) < [c])) := rfl
              have ea1 : ("a" : Str).cps.toList = [97] := by decide +kernel
              have ez1 : ("z" : Str).cps.toList = [122] := by decide +kernel
              rw [ea1]
              cases e4 : (!decide (([c] : List Nat) < [97])) with
              | false =>
                rw [e4] at ec
                refine iteF (r1 _ _ ?_ (Same.refl _))
                rw [ea, ec]
                rfl
              | true =>
                rw [e4] at ec
                refine iteT ⟨_, _, rfl, rfl, r1 _ _ ?_ (Same.refl _)⟩
                rw [ea, ec, ez1]
                rfl
            · intro H2 s1 hl
              refine ⟨D, s.cps.toList.map okSign, rfl, SqL.of ?_, ?_⟩
              · rw [hl, List.map_map]
                have : s.cps.toList.take s.cps.size = s.cps.toList := by rw [← Array.length_toList, List.take_length]
                rw [this]
                rfl
              · have := k H2 s1
                rw [List.all_map]
                exact this
theorem ok_InvalidModes_init (T : Txt K mg) : FnOk P w K mg base CX0 1 T.f_InvalidModes_init T.fd_InvalidModes_init ["self", "value"] (sp_xinit K T.C_InvalidModes "value") := by
  refine T.F_InvalidModes_init.ok sc_InvalidModes_init (fun vs H Q E h => ?_) (fun cdv A outer s H vs Q E hr h => ?_)
  · obtain ⟨a, v, rfl, _⟩ := h
    rfl
  · obtain ⟨a, v, rfl, x, n, ha, k⟩ := h
    refine ⟨_, (pss_one (ps_ost (pv 0) (pv 1))), ?_⟩
    exact ⟨_, rfl, _, rfl, a, T.C_InvalidModes, rfl, x, n, .inl ⟨ha, k⟩⟩
theorem ok_InvalidName_init (T : Txt K mg) : FnOk P w K mg base CX0 1 T.f_InvalidName_init T.fd_InvalidName_init ["self", "value"] (sp_xinit K T.C_InvalidName "value") := by
  refine T.F_InvalidName_init.ok sc_InvalidName_init (fun vs H Q E h => ?_) (fun cdv A outer s H vs Q E hr h => ?_)
  · obtain ⟨a, v, rfl, _⟩ := h
    rfl
  · obtain ⟨a, v, rfl, x, n, ha, k⟩ := h
    refine ⟨_, (pss_one (ps_ost (pv 0) (pv 1))), ?_⟩
    exact ⟨_, rfl, _, rfl, a, T.C_InvalidName, rfl, x, n, .inl ⟨ha, k⟩⟩
theorem ok_Duplicate_init (T : Txt K mg) : FnOk P w K mg base CX0 1 T.f_Duplicate_init T.fd_Duplicate_init ["self", "name"] (sp_xinit K T.C_Duplicate "name") := by
  refine T.F_Duplicate_init.ok sc_Duplicate_init (fun vs H Q E h => ?_) (fun cdv A outer s H vs Q E hr h => ?_)
  · obtain ⟨a, v, rfl, _⟩ := h
    rfl
  · obtain ⟨a, v, rfl, x, n, ha, k⟩ := h
    refine ⟨_, (pss_one (ps_ost (pv 0) (pv 1))), ?_⟩
    exact ⟨_, rfl, _, rfl, a, T.C_Duplicate, rfl, x, n, .inl ⟨ha, k⟩⟩
theorem ok_InvalidStrengths_init (T : Txt K mg) : FnOk P w K mg base CX0 1 T.f_InvalidStrengths_init T.fd_InvalidStrengths_init ["self", "value"] (sp_xinit K T.C_InvalidStrengths "value") := by
  refine T.F_InvalidStrengths_init.ok sc_InvalidStrengths_init (fun vs H Q E h => ?_) (fun cdv A outer s H vs Q E hr h => ?_)
  · obtain ⟨a, v, rfl, _⟩ := h
    rfl
  · obtain ⟨a, v, rfl, x, n, ha, k⟩ := h
    refine ⟨_, (pss_one (ps_ost (pv 0) (pv 1))), ?_⟩
    exact ⟨_, rfl, _, rfl, a, T.C_InvalidStrengths, rfl, x, n, .inl ⟨ha, k⟩⟩
theorem ok_InvalidClash_init (T : Txt K mg) : FnOk P w K mg base CX0 1 T.f_InvalidClash_init T.fd_InvalidClash_init ["self", "value"] (sp_xinit K T.C_InvalidClash "value") := by
  refine T.F_InvalidClash_init.ok sc_InvalidClash_init (fun vs H Q E h => ?_) (fun cdv A outer s H vs Q E hr h => ?_)
  · obtain ⟨a, v, rfl, _⟩ := h
    rfl
  · obtain ⟨a, v, rfl, x, n, ha, k⟩ := h
    refine ⟨_, (pss_one (ps_ost (pv 0) (pv 1))), ?_⟩
    exact ⟨_, rfl, _, rfl, a, T.C_InvalidClash, rfl, x, n, .inl ⟨ha, k⟩⟩
theorem ok_UnknownMode_init (T : Txt K mg) : FnOk P w K mg base CX0 1 T.f_UnknownMode_init T.fd_UnknownMode_init ["self", "name"] (sp_xinit K T.C_UnknownMode "name") := by
  refine T.F_UnknownMode_init.ok sc_UnknownMode_init (fun vs H Q E h => ?_) (fun cdv A outer s H vs Q E hr h => ?_)
  · obtain ⟨a, v, rfl, _⟩ := h
    rfl
  · obtain ⟨a, v, rfl, x, n, ha, k⟩ := h
    refine ⟨_, (pss_one (ps_ost (pv 0) (pv 1))), ?_⟩
    exact ⟨_, rfl, _, rfl, a, T.C_UnknownMode, rfl, x, n, .inl ⟨ha, k⟩⟩
theorem ok_require_name (T : Txt K mg) : FnOk P w K mg base (L2N.CX P w) 3 T.f_require_name T.fd_require_name ["value"] (sp_req K nameO T.C_InvalidName "value") := by
  refine okXN T.F_require_name sc_require_name (fun vs H Q E h => ?_) (fun cdv A outer s H vs Q E hr h => ?_)
  · obtain ⟨v, o, rfl, _⟩ := h
    rfl
  · obtain ⟨v, o, rfl, hv, k1, k2⟩ := h
    refine ⟨_, (pss_one (ps_if (pt_not (pt_val (pe_call (ok_is_name T) (hr.mono (by decide)) rfl T.m_is_name T.F_is_name.kp T.b_is_name .nil pass0 (pa_cons (pv 0) pa_nil)))) (pss_one (L2N.ps_raise rfl (L2N.takes_of rfl rfl rfl rfl) (pmkN_oex T.x_InvalidName T.i_InvalidName T.t_InvalidName (ok_InvalidName_init T) hr T.b_InvalidName_init pass0 rfl T.g_InvalidName (pa_cons (pv 0) pa_nil)))) pss_nil)), ?_⟩
    refine ⟨_, rfl, v, o, rfl, hv, fun H1 s1 => ⟨_, rfl, ?_⟩⟩
    cases e : nameO o with
    | true => exact iteF (k1 e H1 s1)
    | false => exact iteT ⟨_, rfl, raise_x T.x_InvalidName T.n_InvalidName ((k2 e).back s1)⟩
theorem ok_require_modes (T : Txt K mg) : FnOk P w K mg base (L2N.CX P w) 4 T.f_require_modes T.fd_require_modes ["modes"] (sp_rmodes K (C6 T)) := by
  refine okXN T.F_require_modes sc_require_modes (fun vs H Q E h => ?_) (fun cdv A outer s H vs Q E hr h => ?_)
  · obtain ⟨v, r, ms, rfl, _⟩ := h
    rfl
  · obtain ⟨v, r, ms, rfl, hm, k1, k2⟩ := h
    refine ⟨_, (pss_cons (ps_if (pt_not (pt_val (pe_callB (id := "isinstance") call_isi (by rfl) T.z_isinstance (by decide +kernel) (pa_cons (pv 0) (pa_cons (pe_bltn (v := .ty "list") (u := .type "list") (by rfl) T.z_list (by decide +kernel) rfl) pa_nil))))) (pss_one (L2N.ps_raise rfl (L2N.takes_of rfl rfl rfl rfl) (pmkN_oex T.x_InvalidModes T.i_InvalidModes T.t_InvalidModes (ok_InvalidModes_init T) (hr.mono (by decide)) T.b_InvalidModes_init pass0 rfl T.g_InvalidModes (pa_cons (pv 0) pa_nil)))) pss_nil)
        (pss_cons (ps_for (passes_of rfl) rfl (pi_enum rfl T.z_enumerate (pa_cons (pv 0) pa_nil)) (pg_tup rfl (pgs_cons (pg_name (i := 1) sc_require_modes.nd rfl (Or.inl rfl)) (pgs_cons (pg_name (i := 2) sc_require_modes.nd rfl (Or.inl rfl)) pgs_nil)))
          (pss_cons (ps_expr (pe_call (ok_require_name T) hr rfl T.m_require_name T.F_require_name.kp T.b_require_name .nil (passCN (L2N.takes_of rfl rfl rfl rfl)) (pa_cons (pv 2) pa_nil)))
        (pss_one (ps_if (pt_cmpR op_in_seq (pv 2) (pe_slice sl_list (pv 0) po_none (po_some (pv 1))) (by rfl)) (pss_one (L2N.ps_raise rfl (L2N.takes_of rfl rfl rfl rfl) (pmkN_oex T.x_Duplicate T.i_Duplicate T.t_Duplicate (ok_Duplicate_init T) (hr.mono (by decide)) T.b_Duplicate_init pass0 rfl T.g_Duplicate (pa_cons (pv 2) pa_nil)))) pss_nil))))
        (pss_one (ps_if (pt_not (pt_chain op_le op_le pe_int (pe_callB (id := "len") call_len_seq (by rfl) T.z_len (by decide +kernel) (pa_cons (pv 0) pa_nil)) (pe_glob (v := .int 8) rfl T.c_MOST_MODES ⟨_, rfl⟩))) (pss_one (L2N.ps_raise rfl (L2N.takes_of rfl rfl rfl rfl) (pmkN_oex T.x_InvalidModes T.i_InvalidModes T.t_InvalidModes (ok_InvalidModes_init T) (hr.mono (by decide)) T.b_InvalidModes_init pass0 rfl T.g_InvalidModes (pa_cons (pv 0) pa_nil)))) pss_nil)))), ?_⟩
    rcases hm.ways with ⟨o, hv, e, rfl⟩ | ⟨l, xs, ds, rfl, sq, it, hr2⟩
    · refine ⟨_, rfl, _, _, _, _, _, rfl, .ty _, hv.ty, kit_l _, _, rfl, ?_⟩
      rw [e]
      exact iteT ⟨_, rfl, raise_x T.x_InvalidModes T.n_InvalidModes (k2 _ rfl)⟩
    have hlen := dpAll_len it.1
    refine ⟨_, rfl, _, _, _, _, _, rfl, .ty _, dp_ty (.lst sq it.1), kit_l (some (.list ds)), _, rfl, iteF ?_⟩
    refine ⟨_, rfl, l, xs, rfl, sq, for_it walk_enum (fun i σ H' => ∃ v1 v2 : Option V, σ = [some (.ref l), v1, v2] ∧ Same H H' ∧ ∀ j, j < i → ∀ d, ds[j]? = some d → nameO (some d) = true ∧ strOf d ∉ (ds.take j).map strOf) ⟨none, none, rfl, Same.refl _, fun j hj => absurd hj (Nat.not_lt_zero _)⟩ (fun i σ H' _ ⟨_, _, _, s, _⟩ => s.seq sq) ?_ ?_⟩
    · rintro i x σ H1 H2 hi ⟨v1, v2, rfl, s1, hp⟩ ⟨t, y1, y2, rfl, ht, rfl, hy1, hy2⟩
      injection hy1 with hy1
      subst hy1
      obtain ⟨d, hd, hdm, vd, dpd⟩ := it.vd hy2
      have s2 := s1.trans (same_new (o := .tup [.int (i : Nat), y2]) ht)
      have sh := scan_here hlen hy2 hd hp
      refine ⟨t, _, rfl, SqT.of upd_same, rfl, _, _, rfl, _, _, rfl, rfl, ?_⟩
      refine ⟨_, rfl, y2, some d, rfl, vd.mono s2, fun e H3 s3 => ?_, fun e => ?_⟩
      · rw [if_pos e] at sh
        have s4 := s2.trans s3
        refine ⟨_, rfl, _, rfl, _, rfl, _, rfl, l, xs, rfl, s4.seq sq, fun q hq => ?_⟩
        rw [cut_takeV xs (Nat.le_of_lt hi), its_take it.1 i fun j hj d hd => (hp j hj d hd).1]
        obtain ⟨s', rfl⟩ := nameO_str e
        cases dpd
        have s5 := same_new (o := .lst (((ds.take i).map strOf).map V.str)) hq
        refine ⟨q, _, rfl, .inl (SqL.of upd_same), rfl, flat_strs _, _, rfl, ?_⟩
        show (if (inV (.str s') (((ds.take i).map strOf).map V.str)) = true then _ else _)
        rw [in_strs]
        by_cases c : s' ∈ (ds.take i).map strOf
        · rw [if_pos (show strOf (.str s') ∈ _ from c)] at sh
          refine iteTe (decide_eq_true c) ⟨_, rfl, raise_x T.x_Duplicate T.n_Duplicate ?_⟩
          rcases hr2 with ⟨q', e1, e2⟩ | ⟨e1, _⟩
          · rw [sh] at e2
            injection e2 with e2
            subst e2
            exact (k2 _ e1).back (s4.trans s5)
          · rw [sh] at e1
            cases e1
        · refine iteFe (decide_eq_false c) ⟨_, _, rfl, s4.trans s5, fun j hj d' hd' => ?_⟩
          rcases Nat.lt_succ_iff_lt_or_eq.mp hj with h | rfl
          · exact hp j h d' hd'
          · rw [hd] at hd'
            cases hd'
            exact ⟨e, c⟩
      · rw [if_neg (by rw [e]; decide)] at sh
        refine (show Rz H E _ _ _ from ?_).back s2
        rcases hr2 with ⟨q', e1, e2⟩ | ⟨e1, _⟩
        · rw [sh] at e2
          injection e2 with e2
          subst e2
          exact k2 _ e1
        · rw [sh] at e1
          cases e1
    · rintro σ H1 ⟨v1, v2, rfl, s1, hp⟩
      have se := scan_end hlen (fun j hj => hp j (by rw [hlen]; exact hj))
      have s1q := s1.seq sq
      refine ⟨_, rfl, l, xs, rfl, .inl s1q, _, _, rfl, rfl, _, rfl, ?_⟩
      rcases hr2 with ⟨q', _, e2⟩ | ⟨_, ⟨h1, h8, e2⟩ | ⟨h1, e2⟩⟩
      · rw [se] at e2
        cases e2
      · exact iteTe (decide_eq_true (by omega)) ⟨_, _, rfl, rfl, _, rfl, iteFe (by rw [decide_eq_true (show ((xs.length : Nat) : Int) ≤ 8 by omega)]; rfl) (k1 e2 _ s1)⟩
      · by_cases h : 1 ≤ xs.length
        · exact iteTe (decide_eq_true (by omega)) ⟨_, _, rfl, rfl, _, rfl, iteTe (by rw [decide_eq_false (show ¬ ((xs.length : Nat) : Int) ≤ 8 by omega)]; rfl) ⟨_, rfl, raise_x T.x_InvalidModes T.n_InvalidModes ((k2 _ e2).back s1)⟩⟩
        · exact iteFe (decide_eq_false (by omega)) ⟨_, rfl, iteT ⟨_, rfl, raise_x T.x_InvalidModes T.n_InvalidModes ((k2 _ e2).back s1)⟩⟩
theorem ok_require_clashes (T : Txt K mg) : FnOk P w K mg base (L2N.CX P w) 3 T.f_require_clashes T.fd_require_clashes ["clashes", "modes"] (sp_rclash K (C6 T)) := by
  refine okXN T.F_require_clashes sc_require_clashes (fun vs H Q E h => ?_) (fun cdv A outer s H vs Q E hr h => ?_)
  · obtain ⟨v, l, r, ms, ps, rfl, _⟩ := h
    rfl
  · obtain ⟨v, l, r, ms, ps, rfl, sm, hms, hm8, hc, k1, k2⟩ := h
    refine ⟨_, (pss_cons (ps_if (pt_not (pt_val (pe_callB (id := "isinstance") call_isi (by rfl) T.z_isinstance (by decide +kernel) (pa_cons (pv 0) (pa_cons (pe_bltn (v := .ty "list") (u := .type "list") (by rfl) T.z_list (by decide +kernel) rfl) pa_nil))))) (pss_one (L2N.ps_raise rfl (L2N.takes_of rfl rfl rfl rfl) (pmkN_oex T.x_InvalidStrengths T.i_InvalidStrengths T.t_InvalidStrengths (ok_InvalidStrengths_init T) hr T.b_InvalidStrengths_init pass0 rfl T.g_InvalidStrengths (pa_cons (pv 0) pa_nil)))) pss_nil)
        (pss_one (ps_for (passes_of rfl) rfl (pi_list (pv 0)) (pg_name (i := 2) sc_require_clashes.nd rfl (Or.inl rfl))
          (pss_cons (ps_if (PW.pt (pw_or (pt_not (pt_val (pe_callB (id := "isinstance") call_isi (by rfl) T.z_isinstance (by decide +kernel) (pa_cons (pv 2) (pa_cons (pe_bltn (v := .ty "tuple") (u := .type "tuple") (by rfl) T.z_tuple (by decide +kernel) rfl) pa_nil))))) (pw_or1 (pt_cmpR op_ne (pe_callB (id := "len") call_len_seq (by rfl) T.z_len (by decide +kernel) (pa_cons (pv 2) pa_nil)) pe_int (nomark _))))) (pss_one (L2N.ps_raise rfl (L2N.takes_of rfl rfl rfl rfl) (pmkN_oex T.x_InvalidClash T.i_InvalidClash T.t_InvalidClash (ok_InvalidClash_init T) hr T.b_InvalidClash_init pass0 rfl T.g_InvalidClash (pa_cons (pv 2) pa_nil)))) pss_nil)
        (pss_one (ps_for (passes_of rfl) rfl (pi_tup (pv 2)) (pg_name (i := 3) sc_require_clashes.nd rfl (Or.inl rfl))
          (pss_one (ps_if (pt_cmpR (op_notInD (u65 hr)) (pv 3) (pv 1) (by rfl)) (pss_one (L2N.ps_raise rfl (L2N.takes_of rfl rfl rfl rfl) (pmkN_oex T.x_UnknownMode T.i_UnknownMode T.t_UnknownMode (ok_UnknownMode_init T) hr T.b_UnknownMode_init pass0 rfl T.g_UnknownMode (pa_cons (pv 3) pa_nil)))) pss_nil)))))))), ?_⟩
    cases hc with
    | nol hv e =>
      refine ⟨_, rfl, _, _, _, _, _, rfl, .ty _, hv.ty, kit_l _, _, rfl, ?_⟩
      rw [e]
      exact iteT ⟨_, rfl, raise_x T.x_InvalidStrengths T.n_InvalidStrengths (k2 _ rfl)⟩
    | @lst lc xs ds _ _ sq it hcl =>
      refine ⟨_, rfl, _, _, _, _, _, rfl, .ty _, dp_ty (.lst sq it.1), kit_l (some (.list ds)), _, rfl, iteF ?_⟩
      refine ⟨_, rfl, lc, rfl, ⟨_, sq⟩, for_list (K := K) (a := lc) (xs := xs) (fun i σ H' => ∃ v1 v2 : Option V, σ = [some (.ref lc), some (.ref l), v1, v2] ∧ Same H H' ∧ ∃ ps', ClS K H ms (xs.drop i) (ds.drop i) r ps') ⟨none, none, rfl, Same.refl _, _, hcl⟩ (fun i σ H' _ ⟨_, _, _, s, _⟩ => s.seq sq) ?_ ?_⟩
      · rintro i x σ H1 hx ⟨v1, v2, rfl, s1, ps', hc⟩
        obtain ⟨d, hd, hdm, vd, dpd⟩ := it.vd hx
        rw [drop_cons hx, drop_cons hd] at hc
        have back : ∀ q, r = some q → Ex6 H1 E (C6 T) q := fun q e => (k2 q e).back s1
        rcases hc.ways with ⟨_, ho, er⟩ | ⟨t, y1, y2, e1, e2, rfl, rfl, st, p1, p2, r1, r2, r3⟩
        · refine ⟨_, rfl, _, _, _, _, _, rfl, .ty _, dp_ty (dp_mono s1 dpd), kit_o (some d) (.inr (.inr (.inr rfl))), _, rfl, ?_⟩
          rcases ho with e | ⟨es, rfl, l2⟩
          · rw [e]
            exact iteT (iteT ⟨_, rfl, raise_x T.x_InvalidClash T.n_InvalidClash (back _ er)⟩)
          · cases dpd with
            | tup st sd =>
              refine iteF ⟨_, rfl, _, _, rfl, .inr (same_t s1 st), rfl, _, rfl, iteTe ?_ ⟨_, rfl, raise_x T.x_InvalidClash T.n_InvalidClash (back _ er)⟩⟩
              rw [decide_eq_false (fun z => by injection z with z; exact l2 (by rw [← dpAll_len sd]; omega))]
              rfl
        · have st1 := same_t s1 st
          have hsh := it.sh hdm
          have sh1 := shaped_of_tuple hsh (d := e1) (by simp)
          have sh2 := shaped_of_tuple hsh (d := e2) (by simp)
          refine ⟨_, rfl, _, _, _, _, _, rfl, .ty _, dp_ty (dp_mono s1 dpd), kit_o (some (.tuple [e1, e2])) (.inr (.inr (.inr rfl))), _, rfl, iteF ?_⟩
          refine ⟨_, rfl, _, _, rfl, .inr st1, rfl, _, rfl, iteFe rfl ?_⟩
          refine ⟨_, rfl, t, rfl, ⟨_, st1⟩, for_it (walk_tup (xs := [y1, y2])) (fun j σ H' => ∃ v2 : Option V, σ = [some (.ref lc), some (.ref l), some (.ref t), v2] ∧ Same H1 H' ∧ (1 ≤ j → modeB ms e1 = true) ∧ (2 ≤ j → modeB ms e2 = true)) ⟨v2, rfl, Same.refl _, (fun z => absurd z (by decide)), fun z => absurd z (by decide)⟩ (fun j σ H' _ ⟨_, _, s, _⟩ => same_t s st1) ?_ ?_⟩
          · rintro j y σ H2 H3 hj ⟨v2, rfl, s2, m1, m2⟩ ⟨rfl, hy⟩
            have s12 := s1.trans s2
            have hj : j < 2 := hj
            obtain ⟨e, pe, she, er, en⟩ : ∃ e : PyData, Dp K H y e ∧ (e.canLay0 = true ∧ e.depth ≤ 63) ∧ (modeB ms e = false → r = some (5, y)) ∧ (modeB ms e = true → ((1 ≤ j + 1 → modeB ms e1 = true) ∧ (2 ≤ j + 1 → modeB ms e2 = true))) := by
              have : j = 0 ∨ j = 1 := by omega
              rcases this with rfl | rfl
              · cases hy
                exact ⟨e1, p1, sh1, r1, fun c => ⟨fun _ => c, fun z => absurd z (by decide)⟩⟩
              · cases hy
                exact ⟨e2, p2, sh2, r2 (m1 (by decide)), fun c => ⟨fun _ => m1 (by decide), fun _ => c⟩⟩
            refine ⟨_, rfl, _, rfl, e, ms.map PyData.str, dp_mono s12 pe, .lst (s12.seq sm) (dpAll_strs ms), shaped_iff.mpr ⟨she.1, by have := she.2; omega⟩, sh_names hms, _, rfl, ?_⟩
            show (if (!modeB ms e) = true then _ else _)
            cases c : modeB ms e with
            | false => exact iteT ⟨_, rfl, raise_x T.x_UnknownMode T.n_UnknownMode ((k2 _ (er c)).back s12)⟩
            | true => exact iteF ⟨_, rfl, s2, en c⟩
          · rintro σ H2 ⟨v2, rfl, s2, m1, m2⟩
            obtain ⟨ps2, h2⟩ := r3 (m1 (by simp)) (m2 (by simp))
            exact ⟨_, _, rfl, s1.trans s2, ps2, h2⟩
      · rintro σ H1 ⟨v1, v2, rfl, s1, ps', hc⟩
        rw [List.drop_length, List.drop_of_length_le (by rw [dpAll_len it.1]; exact Nat.le_refl _)] at hc
        cases hc
        exact k1 rfl _ s1
theorem ok_clashing_modes (T : Txt K mg) : FnOk P w K mg base CX0 1 T.f_clashing_modes T.fd_clashing_modes ["mode", "modes", "clashes"] (sp_cmodes K) := by
  refine T.F_clashing_modes.ok sc_clashing_modes (fun vs H Q E h => ?_) (fun cdv A outer s H vs Q E hr h => ?_)
  · obtain ⟨m, l, lc, ms, ps, xs, rfl, _⟩ := h
    rfl
  · obtain ⟨m, l, lc, ms, ps, xs, rfl, sm, hms, hm8, hm, sc, dp, hps, k⟩ := h
    refine ⟨_, (pss_one (ps_ret (pe_lc (own := [("other", 3)]) (g := gName 3) rfl sc_clashing_modes.nd (pi_list (pv 1)) (blkOk_by (own := [("other", 3)]) (N := ["mode", "modes", "clashes", "other"]) (sc := defScope s_clashing_modes) (by decide +kernel)) (fun _ _ _ _ _ => (pg_name (i := 3) sc_clashing_modes.nd rfl (Or.inl rfl))) (fun _ _ _ _ _ => (pts_one (PW.pt (pw_or (pt_cmpR (r := rInD K) (op_inD (u65 hr)) (pe_tup (pa_cons (pv 0) (pa_cons (pv 3) pa_nil))) (pv 2) (by rfl)) (pw_or1 (pt_cmpR (r := rInD K) (op_inD (u65 hr)) (pe_tup (pa_cons (pv 3) (pa_cons (pv 0) pa_nil))) (pv 2) (by rfl))))))) (fun _ _ _ _ _ => (pv 3))))), ?_⟩
    refine ⟨_, rfl, l, rfl, ⟨_, sm⟩, fun D hD => ?_⟩
    refine lc_acc walk_list hD (fun H' s' => s'.seq sm) (fun i => ((ms.take i).filter (adj ps m)).map V.str) rfl (fun i hi => ?_) ?_ ?_
    · rw [List.length_map]
      have := List.length_filter_le (adj ps m) (ms.take i)
      rw [List.length_take] at this
      exact Nat.lt_of_le_of_lt (Nat.le_trans this (Nat.le_trans (Nat.min_le_right _ _) hm8)) (by decide)
    · rintro i x H2 hi hx s1 R S r1 r2
      rw [List.getElem?_map] at hx
      obtain ⟨o, ho, rfl⟩ := Option.map_eq_some_iff.mp hx
      have om : o ∈ ms := List.mem_of_getElem? ho
      have step : ((ms.take (i + 1)).filter (adj ps m)).map V.str = if adj ps m o = true then ((ms.take i).filter (adj ps m)).map V.str ++ [V.str o] else ((ms.take i).filter (adj ps m)).map V.str := by
        rw [List.take_add_one, ho]
        cases h : adj ps m o <;> simp [h]
      have c1 := prD_can hms (p := (m, o)) ⟨hm, om⟩
      have c2 := prD_can hms (p := (o, m)) ⟨om, hm⟩
      have psh := prs_sh hms hps.2
      refine ⟨rfl, _, rfl, _, rfl, (by show 2 ≤ sizeLine; decide), fun t ht => ?_⟩
      have s2 := same_new (o := .tup [.str m, .str o]) ht
      refine ⟨_, rfl, prD (m, o), ps.map prD, .tup (SqT.of upd_same) (.cons (.str _) (.cons (.str _) .nil)), .lst ((s1.trans s2).seq sc) (dpAll_mono (s1.trans s2) dp), shaped_iff.mpr ⟨c1.1, by have := c1.2; omega⟩, psh, _, rfl, ?_⟩
      rw [any_prD]
      by_cases h1 : (m, o) ∈ ps
      · have ha : adj ps m o = true := by
          unfold adj
          rw [decide_eq_true h1]
          rfl
        rw [if_pos ha] at step
        exact iteTe (decide_eq_true h1) (iteT ⟨_, rfl, r1 _ _ step s2⟩)
      · refine iteFe (decide_eq_false h1) ⟨_, rfl, _, rfl, (by show 2 ≤ sizeLine; decide), fun t2 ht2 => ?_⟩
        have s3 := s2.trans (same_new (o := .tup [.str o, .str m]) ht2)
        refine ⟨_, rfl, prD (o, m), ps.map prD, .tup (SqT.of upd_same) (.cons (.str _) (.cons (.str _) .nil)), .lst ((s1.trans s3).seq sc) (dpAll_mono (s1.trans s3) dp), shaped_iff.mpr ⟨c2.1, by have := c2.2; omega⟩, psh, _, rfl, ?_⟩
        rw [any_prD]
        by_cases h2 : (o, m) ∈ ps
        · have ha : adj ps m o = true := by
            unfold adj
            rw [decide_eq_true h2, Bool.or_true]
          rw [if_pos ha] at step
          exact iteTe (decide_eq_true h2) ⟨_, rfl, r1 _ _ step s3⟩
        · have ha : adj ps m o = false := by
            unfold adj
            rw [decide_eq_false h1, decide_eq_false h2]
            rfl
          rw [if_neg (by rw [ha]; decide)] at step
          exact iteFe (decide_eq_false h2) (r2 _ step s3)
    · intro H2 s1 hl
      have hl : H2 D = some (.lst (((ms.take (ms.map V.str).length).filter (adj ps m)).map V.str)) := hl
      rw [List.length_map, List.take_length] at hl
      exact k H2 D s1 hD hl
theorem ok_Strengths_init (T : Txt K mg) : FnOk P w K mg base (L2N.CX P w) 5 T.f_Strengths_init T.fd_Strengths_init ["self", "modes", "clashes"] (sp_sinit K T.C_Strengths (C6 T)) := by
  refine okXN T.F_Strengths_init sc_Strengths_init (fun vs H Q E h => ?_) (fun cdv A outer s H vs Q E hr h => ?_)
  · obtain ⟨x, dx, v1, v2, r1, ms, rfl, _⟩ := h
    rfl
  · obtain ⟨x, dx, v1, v2, r1, ms, rfl, hx, hm, k1, k2⟩ := h
    refine ⟨_, (pss_cons (ps_expr (pe_call (ok_require_modes T) hr rfl T.m_require_modes T.F_require_modes.kp T.b_require_modes .nil (passCN (L2N.takes_of rfl rfl rfl rfl)) (pa_cons (pv 1) pa_nil)))
        (pss_cons (ps_expr (pe_call (ok_require_clashes T) (hr.mono (by decide)) rfl T.m_require_clashes T.F_require_clashes.kp T.b_require_clashes .nil (passCN (L2N.takes_of rfl rfl rfl rfl)) (pa_cons (pv 2) (pa_cons (pv 1) pa_nil))))
        (pss_cons (ps_fld (pv 0) (pe_callTy (T := "list") call_list_of (by rfl) T.z_list (by decide +kernel) (pa_cons (pv 1) pa_nil)) rfl)
        (pss_one (ps_fld (pv 0) (pe_dc (own := [("mode", 3)]) (g := gName 3) (tt := tYes) rfl sc_Strengths_init.nd (pi_list (pv 1)) (blkOk_by (own := [("mode", 3)]) (N := ["self", "modes", "clashes", "mode"]) (sc := defScope s_Strengths_init) (by decide +kernel)) (fun _ _ _ _ _ => (pg_name (i := 3) sc_Strengths_init.nd rfl (Or.inl rfl))) (fun _ _ _ _ _ => pts_nil) (fun _ _ _ _ _ => (pv 3)) (fun _ _ _ _ _ => (pe_call (ok_clashing_modes T) (hr.mono (by decide)) rfl T.m_clashing_modes T.F_clashing_modes.kp T.b_clashing_modes .nil pass0 (pa_cons (pv 3) (pa_cons (pv 1) (pa_cons (pv 2) pa_nil)))))) rfl))))), ?_⟩
    have sB := but_le H x
    refine ⟨_, rfl, v1, r1, ms, rfl, hm.mono sB, fun e1 H1 s1 => ?_, fun q e => k1 q e⟩
    obtain ⟨r2, ps, hc, k3, k4⟩ := k2 e1
    subst e1
    cases hm with
    | @ok l _ sq hn nd l8 =>
    refine ⟨_, rfl, _, rfl, v2, l, r2, ms, ps, rfl, (sB.trans s1).seq sq, hn, l8.2, hc.mono (sB.trans s1), fun e2 H2 s2 => ?_, fun q e => (k3 q e).back s1⟩
    have s12 := s1.trans s2
    have k5 := k4 e2
    clear k4
    subst e2
    cases hc with
    | @lst lc xs ds _ _ sc it hcl =>
    obtain ⟨rfl, hps⟩ := hcl.fine
    have ok : okPs ms ps := ⟨by have := it.2.1; rw [List.length_map] at this; exact this, hps⟩
    have dp := it.1
    refine ⟨_, rfl, l, _, rfl, .inl ((sB.trans s12).seq sq), fun l1 h1 => ?_⟩
    have s3 := s12.trans (same_new (o := .lst (ms.map V.str)) h1)
    have nx : x ≠ l1 := ne_of_none (s12 _ _ hx) h1
    refine ⟨_, rfl, x, T.C_Strengths, dx, [], rfl, s3 _ _ hx, T.cl_Strengths, T.no_Strengths_modes, (by show 0 < 1000; decide), ?_⟩
    have sm : Same (but H x) (upd (upd H2 l1 (.lst (ms.map V.str))) x (.ins T.C_Strengths dx (putF "_modes" (.ref l1) []))) := but_mut (sB.trans s3)
    have hx3 : (upd (upd H2 l1 (.lst (ms.map V.str))) x (.ins T.C_Strengths dx (putF "_modes" (.ref l1) []))) x = some (.ins T.C_Strengths dx (putF "_modes" (.ref l1) [])) := upd_same
    have hl3 : (upd (upd H2 l1 (.lst (ms.map V.str))) x (.ins T.C_Strengths dx (putF "_modes" (.ref l1) []))) l1 = some (.lst (ms.map V.str)) := by rw [upd_ne nx.symm, upd_same]
    have fr3 : ∀ b, (upd (upd H2 l1 (.lst (ms.map V.str))) x (.ins T.C_Strengths dx (putF "_modes" (.ref l1) []))) b = none → H b = none := fun b e => by
      cases hb : H b with
      | none => rfl
      | some u =>
        by_cases h : b = x
        · rw [h, upd_same] at e
          cases e
        · rw [upd_ne h, s3 _ _ hb] at e
          cases e
    have hl0 : H l1 = none := by
      cases hb : H l1 with
      | none => rfl
      | some u =>
        rw [s12 _ _ hb] at h1
        cases h1
    have st3 : ∀ b o, H b = some o → b ≠ x → (upd (upd H2 l1 (.lst (ms.map V.str))) x (.ins T.C_Strengths dx (putF "_modes" (.ref l1) []))) b = some o := fun b o e hb => by
      rw [upd_ne hb]
      exact s3 _ _ e
    clear s1 s2 s12 s3 h1 k1 k2 k3 sB
    generalize upd (upd H2 l1 (.lst (ms.map V.str))) x (.ins T.C_Strengths dx (putF "_modes" (.ref l1) [])) = H3 at sm hx3 hl3 st3 fr3
    refine ⟨_, rfl, l, rfl, ⟨_, sm.seq sq⟩, fun D hD => ?_⟩
    have nDx : x ≠ D := ne_of_none hx3 hD
    refine dc_it walk_list (fun i H' => Same H3 H' ∧ ∃ kvs, H' D = some (.dK kvs) ∧ Ents K (but (offH H H') D) kvs ((ms.take i).map fun m => (.inr m, strsL (ag ms ps m)))) ⟨same_new hD, [], upd_same, .nil⟩ (fun i H' _ ⟨s, _⟩ => s.seq (sm.seq sq)) ?_ ?_
    · rintro i y H4 H5 hi ⟨s4, kvs, hk, en⟩ ⟨rfl, hy⟩
      rw [List.getElem?_map] at hy
      obtain ⟨m, hm, rfl⟩ := Option.map_eq_some_iff.mp hy
      have sm4 := sm.trans s4
      refine ⟨rfl, tyes ⟨_, rfl, _, rfl, _, rfl, _, rfl, m, l, lc, ms, ps, xs, rfl, sm4.seq sq, hn, l8.2, List.mem_of_getElem? hm, sm4.seq sc, dpAll_mono sm4 dp, ok, fun H6 q s6 nq hq => ⟨kvs, .inr m, rfl, s6 _ _ hk, ?_, ?_⟩⟩⟩
      · have := en.len
        rw [List.length_map, List.length_take] at this
        rw [this]
        exact Nat.lt_of_le_of_lt (Nat.le_trans (Nat.min_le_right _ _) l8.2) (by decide)
      · have hD6 := s6 _ _ hk
        have hx6 := s6 _ _ (s4 _ _ hx3)
        have nqD : q ≠ D := fun e => by
          rw [e, hD6] at hq
          cases hq
        have nqx : q ≠ x := fun e => by
          rw [e, hx6] at hq
          cases hq
        have kn := en.keys (keys_ne nd hm)
        rw [putK_new _ kn]
        refine ⟨fun b o e => ?_, _, upd_same, ?_⟩
        · rw [upd_ne (ne_of_none e hD)]
          exact s6 _ _ (s4 _ _ e)
        · have e1 : (ms.take (i + 1)).map (fun m => ((.inr m : Key), strsL (ag ms ps m))) = (ms.take i).map (fun m => ((.inr m : Key), strsL (ag ms ps m))) ++ [(.inr m, strsL (ag ms ps m))] := by
            rw [List.take_add_one, hm, List.map_append]
            rfl
          rw [e1]
          have sb : Same (but (offH H H6) D) (but (offH H (upd H6 D (.dK (kvs ++ [(.inr m, .ref q)])))) D) := offH_upd
          have hq0 : H q = none := fr3 q (s4.free nq)
          refine ((en.mono (but_of (offH_mono s6))).mono sb).snoc (dp_mono sb (.lst (SqL.of (by rw [but_ne nqD, offH_of hq0]; exact hq)) (dpAll_strs _))) (strsL_sh fun s hs => hn s (List.mem_filter.mp hs).1)
    · rintro H4 ⟨s4, kvs, hk, en⟩
      have el : (ms.take (ms.map V.str).length) = ms := by rw [List.length_map, List.take_length]
      rw [el] at en
      refine ⟨_, rfl, x, T.C_Strengths, dx, _, rfl, s4 _ _ hx3, T.cl_Strengths, T.no_Strengths_against, (by show 1 < 1000; decide), ?_⟩
      rw [fsS_eq]
      refine k5 _ (fun b o e hb => by rw [upd_ne hb]; exact s4 _ _ (st3 b o e hb)) fun G hG => ⟨dx, l1, D, kvs, hG x _ (.inr rfl) upd_same, hG l1 _ (.inl hl0) (by rw [upd_ne nx.symm]; exact s4 _ _ hl3), hG D _ (.inl (fr3 D hD)) (by rw [upd_ne nDx.symm]; exact hk), ?_⟩
      exact en.mono fun b u e => by
        obtain ⟨h1, h2⟩ := offH_some (but_le _ _ _ _ e)
        have hb : b ≠ x := (ne_of_none hx h1).symm
        exact hG b u (.inl h1) (by rw [upd_ne hb]; exact h2)
theorem ok_Strengths_modes (T : Txt K mg) : FnOk P w K mg base CX0 1 T.f_Strengths_modes T.fd_Strengths_modes ["self"] (sp_smodes K T.C_Strengths) := by
  refine T.F_Strengths_modes.ok sc_Strengths_modes (fun vs H Q E h => ?_) (fun cdv A outer s H vs Q E hr h => ?_)
  · obtain ⟨x, ms, f, rfl, _⟩ := h
    rfl
  · obtain ⟨x, ms, f, rfl, ⟨dx, l, d, kvs, hx, hl, hd, en⟩, k⟩ := h
    refine ⟨_, (pss_one (ps_ret (pe_callTy (T := "list") call_list_of (by rfl) T.z_list (by decide +kernel) (pa_cons (pe_fld (pv 0) rfl) pa_nil)))), ?_⟩
    exact ⟨_, rfl, x, _, dx, _, _, rfl, hx, T.cl_Strengths, T.no_Strengths_modes, fsS_modes l d, l, _, rfl, .inl (SqL.of hl), fun q hq => k _ q (same_new hq) hq upd_same⟩
theorem ok_Strengths_clashes (T : Txt K mg) : FnOk P w K mg base CX0 1 T.f_Strengths_clashes T.fd_Strengths_clashes ["self"] (sp_sclash K T.C_Strengths) := by
  refine T.F_Strengths_clashes.ok sc_Strengths_clashes (fun vs H Q E h => ?_) (fun cdv A outer s H vs Q E hr h => ?_)
  · obtain ⟨x, ms, f, rfl, _⟩ := h
    rfl
  · obtain ⟨x, ms, f, rfl, ⟨dx, l, d, kvs, hx, hl, hd, en⟩, h9, k⟩ := h
    refine ⟨_, (pss_cons (ps_set (i := 1) sc_Strengths_clashes.nd rfl (Or.inl rfl) (pe_lst pa_nil))
        (pss_cons (ps_for PassesOwn.never rfl (pi_enum rfl T.z_enumerate (pa_cons (pe_fld (pv 0) rfl) pa_nil)) (pg_tup rfl (pgs_cons (pg_name (i := 2) sc_Strengths_clashes.nd rfl (Or.inl rfl)) (pgs_cons (pg_name (i := 3) sc_Strengths_clashes.nd rfl (Or.inl rfl)) pgs_nil)))
          (pss_one (ps_for PassesOwn.never rfl (pi_list (pe_slice sl_list (pe_fld (pv 0) rfl) (po_some (pv 2)) po_none)) (pg_name (i := 4) sc_Strengths_clashes.nd rfl (Or.inl rfl))
          (pss_one (ps_if (pt_cmpR op_in_seq (pv 4) (pe_dget (hu_of hr) (pe_fld (pv 0) rfl) (pv 3) (fun _ _ => rfl)) (by rfl)) (pss_one (ps_expr (pe_bm PySem.F.plainAttrs_list PySem.F.slot_list_append PySem.F.type_list_append mt_append (pv 1) (pa_cons (pe_tup (pa_cons (pv 3) (pa_cons (pv 4) pa_nil))) pa_nil)))) pss_nil)))))
        (pss_one (ps_ret (pv 1))))), ?_⟩
    refine ⟨(by show 0 ≤ sizeLine; decide), fun D hD => ?_⟩
    have s0 := same_new (o := .lst []) hD
    refine ⟨_, rfl, x, _, dx, _, _, rfl, s0 _ _ hx, T.cl_Strengths, T.no_Strengths_modes, fsS_modes l d, l, _, rfl, SqL.of (s0 _ _ hl), for_it walk_enum (fun i σ H' => ∃ (v2 v3 v4 : Option V) (xs : List V), σ = [some (.ref x), some (.ref D), v2, v3, v4] ∧ Same H H' ∧ H' D = some (.lst xs) ∧ DpAll K (but H' D) xs ((prsA f ms i).map prD)) ⟨none, none, none, [], rfl, s0, upd_same, .nil⟩ (fun i σ H' _ ⟨_, _, _, _, _, s, _⟩ => SqL.of (s _ _ hl)) ?_ ?_⟩
    · rintro i y σ H1 H2 hi ⟨v2, v3, v4, xs, rfl, s1, hD1, hxs⟩ ⟨t, y1, y2, rfl, ht, rfl, hy1, hy2⟩
      injection hy1 with hy1
      subst hy1
      have hy2 : (ms.map V.str)[i]? = some y2 := hy2
      rw [List.getElem?_map] at hy2
      obtain ⟨m, hm, rfl⟩ := Option.map_eq_some_iff.mp hy2
      have mm : m ∈ ms := List.mem_of_getElem? hm
      have hi2 : i ≤ ms.length := Nat.le_of_lt ((List.getElem?_eq_some_iff.mp hm).1)
      have s2 := same_new (o := .tup [.int (i : Nat), .str m]) ht
      have s12 := s1.trans s2
      refine ⟨t, _, rfl, SqT.of upd_same, rfl, _, _, rfl, _, _, rfl, rfl, ?_⟩
      refine ⟨_, rfl, x, _, dx, _, _, rfl, s12 _ _ hx, T.cl_Strengths, T.no_Strengths_modes, fsS_modes l d, _, rfl, _, rfl, l, _, rfl, SqL.of (s12 _ _ hl), fun q hq => ?_⟩
      rw [cut_dropV (ms.map V.str) (by rw [List.length_map]; exact hi2), ← List.map_drop]
      have s3 := s2.trans (same_new (o := .lst ((ms.drop i).map V.str)) hq)
      have s13 := s1.trans s3
      have hDq : q ≠ D := (ne_of_none (s2 _ _ hD1) hq).symm
      have hD3 : (upd (upd H1 t (.tup [.int (i : Nat), .str m])) q (.lst ((ms.drop i).map V.str))) D = some (.lst xs) := s3 _ _ hD1
      have hq3 : (upd (upd H1 t (.tup [.int (i : Nat), .str m])) q (.lst ((ms.drop i).map V.str))) q = some (.lst ((ms.drop i).map V.str)) := upd_same
      have hxs3 := dpAll_mono (but_of (x := D) s3) hxs
      clear s2 s12 ht hq s1 hD1 hxs s3
      generalize upd (upd H1 t (.tup [.int (i : Nat), .str m])) q (.lst ((ms.drop i).map V.str)) = H3 at s13 hD3 hq3 hxs3
      have sH : Same H (but H3 D) := fun b u e => by
        rw [but_ne (ne_of_none e hD)]
        exact s13 _ _ e
      have hqb : but H3 D q = some (.lst ((ms.drop i).map V.str)) := by rw [but_ne hDq]; exact hq3
      obtain ⟨ag, hv, hag⟩ := StrAt.look en mm
      refine ⟨q, rfl, ⟨_, SqL.of hq3⟩, for_list (K := K) (a := q) (xs := (ms.drop i).map V.str) (fun j σ H' => ∃ (v4 : Option V) (zs : List V), σ = [some (.ref x), some (.ref D), some (.int (i : Nat)), some (.str m), v4] ∧ Same (but H3 D) H' ∧ H' D = some (.lst zs) ∧ DpAll K (but H' D) zs ((prsA f ms i ++ (((ms.drop i).take j).filter fun o => decide (o ∈ f m)).map fun o => (m, o)).map prD)) ⟨v4, xs, rfl, but_le _ _, hD3, by simpa using hxs3⟩ (fun j σ H' _ ⟨_, _, _, s, _⟩ => SqL.of (s _ _ hqb)) ?_ ?_⟩
      · rintro j y σ H4 hy ⟨v4, zs, rfl, s4, hD4, hzs⟩
        rw [List.getElem?_map] at hy
        obtain ⟨o, ho, rfl⟩ := Option.map_eq_some_iff.mp hy
        have s5 := sH.trans s4
        have step := filt_take (f := fun o => decide (o ∈ f m)) ho
        refine ⟨_, rfl, _, rfl, x, _, dx, _, _, rfl, s5 _ _ hx, T.cl_Strengths, T.no_Strengths_against, fsS_against l d, _, rfl, d, .ref ag, rfl, .inl ⟨kvs, .inr m, .inl (s5 _ _ hd), rfl, hv.symm⟩, ag, _, rfl, .inl (s5.seq hag), rfl, flat_strs _, _, rfl, ?_⟩
        show (if (inV (.str o) ((f m).map V.str)) = true then _ else _)
        rw [in_strs]
        cases c : decide (o ∈ f m) with
        | false =>
          rw [if_neg (by rw [c]; decide), List.append_nil] at step
          exact iteF ⟨_, zs, rfl, s4, hD4, by rw [step]; exact hzs⟩
        | true =>
          rw [if_pos (by rw [c])] at step
          refine iteT ⟨_, rfl, .inl ⟨rfl, _, .inl (.inl hD4)⟩, _, rfl, _, rfl, (by show 2 ≤ sizeLine; decide), fun t2 ht2 => ?_⟩
          have nt : t2 ≠ D := (ne_of_none hD4 ht2).symm
          have s6 := same_new (o := .tup [.str m, .str o]) ht2
          refine ⟨D, zs, .ref t2, rfl, rfl, s6 _ _ hD4, ?_, ?_⟩
          · rw [dpAll_len hzs, List.length_map, List.length_append, List.length_map]
            have a1 := prsA_len f ms i
            have a2 : (((ms.drop i).take j).filter fun o => decide (o ∈ f m)).length ≤ ms.length := Nat.le_trans (List.length_filter_le _ _) (by rw [List.length_take, List.length_drop]; omega)
            have a3 : i * ms.length ≤ 9 * 9 := Nat.mul_le_mul (Nat.le_trans hi2 h9) h9
            exact Nat.lt_of_lt_of_le (show _ < 100 by omega) (by decide)
          · have sb : Same (but H4 D) (but (upd (upd H4 t2 (.tup [.str m, .str o])) D (.lst (zs ++ [.ref t2]))) D) := (but_of s6).trans (but_upd _ _ _)
            refine ⟨_, _, rfl, but_mut (fun b u e => s6 _ _ (s4 _ _ e)), upd_same, ?_⟩
            have e : (prsA f ms i ++ (((ms.drop i).take (j + 1)).filter fun o => decide (o ∈ f m)).map fun o => (m, o)).map prD = (prsA f ms i ++ (((ms.drop i).take j).filter fun o => decide (o ∈ f m)).map fun o => (m, o)).map prD ++ [prD (m, o)] := by
              rw [step]
              simp
            rw [e]
            refine dpAll_snoc (dpAll_mono sb hzs) (.tup (SqT.of (by rw [but_ne nt, upd_ne nt]; exact upd_same)) (.cons (.str _) (.cons (.str _) .nil)))
      · rintro σ H4 ⟨v4, zs, rfl, s4, hD4, hzs⟩
        rw [List.length_map, List.take_length, ← outP_at hm, ← prsA_succ] at hzs
        exact ⟨_, _, _, zs, rfl, sH.trans s4, hD4, hzs⟩
    · rintro σ H1 ⟨v2, v3, v4, xs, rfl, s1, hD1, hxs⟩
      rw [List.length_map] at hxs
      exact ⟨_, rfl, k H1 D xs s1 hD hD1 hxs⟩
theorem ok_Strengths_eq (T : Txt K mg) : FnOk P w K mg base CX0 1 T.f_Strengths_eq T.fd_Strengths_eq ["self", "other"] (sp_seq K T.C_Strengths) := by
  refine T.F_Strengths_eq.ok sc_Strengths_eq (fun vs H Q E h => ?_) (fun cdv A outer s H vs Q E hr h => ?_)
  · obtain ⟨x, y, ms, f, rfl, _⟩ := h
    rfl
  · obtain ⟨x, y, ms, f, rfl, ⟨dx, l, d, kvs, hx, hl, hd, en⟩, hn, k⟩ := h
    refine ⟨_, (pss_one (ps_ret (pe_and (pe_callB (id := "isinstance") call_isi (by rfl) T.z_isinstance (by decide +kernel) (pa_cons (pv 1) (pa_cons (pe_glob (v := .ref T.C_Strengths) rfl T.g_Strengths rfl) pa_nil))) (pe_and (pe_cmpR (op_eqD hr.units) (pe_fld (pv 0) rfl) (pe_fld (pv 1) rfl) (nomark _)) (pe_one (pe_cmpR (op_eqDD (u65 hr)) (pe_fld (pv 0) rfl) (pe_fld (pv 1) rfl) (nomark _))))))), ?_⟩
    have ic := T.ic_Strengths
    rcases k with ⟨t, ty, kt, k⟩ | ⟨z, ms2, f2, rfl, ⟨dz, l2, d2, kvs2, hz, hl2, hd2, en2⟩, hn2, k⟩
    · exact ⟨_, rfl, _, _, _, _, _, rfl, .own _, ty, kt, _, rfl, iteF k⟩
    · refine ⟨_, rfl, _, _, _, _, _, rfl, .own _, .base (.ins hz ic.cl ic.ha ic.hn ic.htk ic.hm), ic.me, _, rfl, iteT ?_⟩
      refine ⟨_, rfl, x, _, dx, _, _, rfl, hx, T.cl_Strengths, T.no_Strengths_modes, fsS_modes l d, _, rfl, z, _, dz, _, _, rfl, hz, T.cl_Strengths, T.no_Strengths_modes, fsS_modes l2 d2, strsL ms, strsL ms2, .lst (SqL.of hl) (dpAll_strs _), .lst (SqL.of hl2) (dpAll_strs _), strsL_sh hn, strsL_sh hn2, _, rfl, ?_⟩
      rw [eqv_strsL]
      unfold eqStr at k
      by_cases c : ms = ms2
      · subst c
        rw [decide_eq_true (rfl : ms = ms), Bool.true_and] at k
        refine iteTe (decide_eq_true rfl) ⟨_, rfl, x, _, dx, _, _, rfl, hx, T.cl_Strengths, T.no_Strengths_against, fsS_against l d, _, rfl, z, _, dz, _, _, rfl, hz, T.cl_Strengths, T.no_Strengths_against, fsS_against l2 d2, d, d2, kvs, kvs2, _, _, rfl, rfl, hd, hd2, en, en2, ?_⟩
        rw [ents_eq, List.length_map, List.length_map, beq_self_eq_true, Bool.true_and]
        exact k
      · rw [decide_eq_false c, Bool.false_and] at k
        exact iteFe (decide_eq_false c) k
theorem ok_Strengths_str (T : Txt K mg) : FnOk P w K mg base CX0 2 T.f_Strengths_str T.fd_Strengths_str ["self"] (sp_sstr K T.C_Strengths) := by
  refine T.F_Strengths_str.ok sc_Strengths_str (fun vs H Q E h => ?_) (fun cdv A outer s H vs Q E hr h => ?_)
  · obtain ⟨x, ms, f, rfl, _⟩ := h
    rfl
  · obtain ⟨x, ms, f, rfl, st, hn, h9, k⟩ := h
    refine ⟨_, (pss_cons (ps_setLc (i := 1) (own := [("one", 2), ("other", 3)]) (g := gTup K 2 (gCons (gName 2) (gCons (gName 3) gNil))) (tt := tYes) rfl sc_Strengths_str.nd rfl rfl (sw_true rfl rfl rfl (by decide +kernel)) (pi_list (pe_meth0 (pv 0) T.cl_Strengths T.me_Strengths_clashes (ok_Strengths_clashes T) hr T.b_Strengths_clashes .nil pass0)) (blkOk_by (own := [("one", 2), ("other", 3)]) (N := ["self", "pairs", "one", "other", "words"]) (sc := defScope s_Strengths_str) (by decide +kernel)) (fun _ _ _ _ _ => (pg_tup rfl (pgs_cons (pg_name (i := 2) sc_Strengths_str.nd rfl (Or.inl rfl)) (pgs_cons (pg_name (i := 3) sc_Strengths_str.nd rfl (Or.inl rfl)) pgs_nil)))) (fun _ _ _ _ _ => pts_nil) (fun _ _ _ _ _ => (pe_joinedN (.cons (pe_fmt (pv 2)) (.cons pe_str (.cons (pe_fmt (pv 3)) .nil))))))
        (pss_one (ps_ret (pe_join pe_str (pe_lc (own := [("words", 4)]) (g := gName 4) rfl sc_Strengths_str.nd (pi_tup (pe_tup (pa_cons (pe_fld (pv 0) rfl) (pa_cons (pv 1) pa_nil)))) (blkOk_by (own := [("words", 4)]) (N := ["self", "pairs", "one", "other", "words"]) (sc := defScope s_Strengths_str) (by decide +kernel)) (fun _ _ _ _ _ => (pg_name (i := 4) sc_Strengths_str.nd rfl (Or.inl rfl))) (fun _ _ _ _ _ => (pts_one (pt_cmpR op_gt (pe_callB (id := "len") (r := fun xs H Q => ∃ p ys, xs = [.ref p] ∧ (SqL K H p ys ∨ SqT K H p ys) ∧ Q (.int ys.length) H) call_len_seq (by rfl) T.z_len (by decide +kernel) (pa_cons (pv 4) pa_nil)) pe_int (nomark _)))) (fun _ _ _ _ _ => (show PE _ _ (tM1 (rJoinK K) _ _) from (pe_join pe_str (pv 4))))))))), ?_⟩
    obtain ⟨dx, l, d, kvs, hx, hl, hd, en⟩ := id st
    have z4 : 100 ≤ sizeLine := by decide
    have z3 : ("!" : Str).length = 1 := by decide +kernel
    refine ⟨_, rfl, x, dx, fsS l d, rfl, hx, fsS_no (by decide +kernel) (by decide +kernel), x, ms, f, rfl, st, h9, fun H1 q xs s1 hq hq1 hxs => ?_⟩
    have hps := fun p hp => mem_prsOf (f := f) (ms := ms) (p := p) hp
    have len81 : (prsOf f ms).length ≤ 81 := Nat.le_trans (prsA_len f ms ms.length) (Nat.mul_le_mul h9 h9)
    have hxs := dpAll_mono (but_le _ _) hxs
    have xl := dpAll_len hxs
    rw [List.length_map] at xl
    generalize hP : prsOf f ms = ps at hps len81 hxs xl
    have tl : ∀ p ∈ ps, (prT p).length ≤ 17 := fun p hp => by
      have h1 := nameS_len (hn _ (hps p hp).1)
      have h2 := nameS_len (hn _ (hps p hp).2)
      unfold prT
      rw [emp_app, Str.length_append, Str.length_append]
      omega
    refine ⟨q, rfl, ⟨_, SqL.of hq1⟩, fun D hD => ?_⟩
    refine lc_acc walk_list hD (fun H' s' => SqL.of (s' _ _ hq1)) (fun i => ((ps.take i).map prT).map V.str) rfl (fun i hi => ?_) ?_ ?_
    · rw [List.length_map, List.length_map, List.length_take]
      exact Nat.lt_of_le_of_lt (Nat.le_trans (Nat.min_le_right _ _) len81) (by decide)
    · rintro i y H2 hi hy s2 R S r1 r2
      obtain ⟨t, p, rfl, hp, ht⟩ := prs_at hxs hy
      have hpm := List.mem_of_getElem? hp
      have h1 := nameS_len (hn _ (hps p hpm).1)
      have h2 := nameS_len (hn _ (hps p hpm).2)
      refine ⟨t, _, rfl, same_t s2 ht, rfl, _, _, rfl, _, _, rfl, rfl, rfl, tyes ⟨_, rfl, .inl ⟨_, rfl, by omega, _, rfl, ?_, _, rfl, ?_, _, rfl, .inl ⟨_, rfl, by omega, _, rfl, ?_, ?_⟩⟩⟩⟩
      · rw [emp_app]
        omega
      · rw [emp_app, Str.length_append]
        omega
      · rw [emp_app, Str.length_append, Str.length_append]
        omega
      · refine r1 _ _ ?_ (Same.refl _)
        rw [List.take_add_one, hp, List.map_append, List.map_append]
        rfl
    · intro H2 s2 hD2
      have hD2 : H2 D = some (.lst (((ps.take xs.length).map prT).map V.str)) := hD2
      rw [xl, List.take_length] at hD2
      have s12 := s1.trans s2
      refine ⟨⟨_, rfl⟩, _, rfl, x, _, dx, _, _, rfl, s12 _ _ hx, T.cl_Strengths, T.no_Strengths_modes, fsS_modes l d, _, rfl, (by show 2 ≤ sizeLine; decide), fun t ht => ⟨t, rfl, ⟨_, SqT.of upd_same⟩, fun D2 hD3 => ?_⟩⟩
      have s3 := same_new (o := .tup [.ref l, .ref D]) ht
      have zs : (" " : Str).length = 1 := by decide +kernel
      have zc : (": " : Str).length = 2 := by decide +kernel
      have p1 : ∀ y ∈ ms, y.length ≤ 17 := fun y hy => Nat.le_trans (nameS_len (hn y hy)) (by decide)
      have p2 : ∀ y ∈ ps.map prT, y.length ≤ 17 := fun y hy => by
        obtain ⟨p, hp, rfl⟩ := List.mem_map.mp hy
        exact tl p hp
      have b1 := join_le (a := " ") (m := 81) p1 (by omega) (by omega)
      have b2 := join_le (a := " ") (m := 81) p2 (by rw [List.length_map]; exact len81) (by omega)
      refine lc_acc walk_tup hD3 (fun H' s' => SqT.of (s' _ _ upd_same)) (fun i => ((([ms, ps.map prT] : List (List Str)).take i).filter fun ws => decide (0 < ws.length)).map fun ws => V.str (Txt.join " " ws)) rfl (fun i hi => ?_) ?_ ?_
      · rw [List.length_map]
        refine Nat.lt_of_le_of_lt (List.length_filter_le _ _) ?_
        rw [List.length_take]
        exact Nat.lt_of_le_of_lt (Nat.min_le_right _ _) (by show 2 < sizeLine; decide)
      · rintro i y H3 hi hy s4 R S r1 r2
        obtain ⟨w, ws, rfl, hw, hws, hb⟩ : ∃ w ws, y = .ref w ∧ H3 w = some (.lst (ws.map V.str)) ∧ ([ms, ps.map prT] : List (List Str))[i]? = some ws ∧ (ws.map (·.length)).sum + ws.length * (" " : Str).length ≤ 81 * 17 + 81 * 2 := by
          have hi : i < 2 := hi
          have : i = 0 ∨ i = 1 := by omega
          rcases this with rfl | rfl
          · cases hy
            exact ⟨l, ms, rfl, s4 _ _ (s3 _ _ (s12 _ _ hl)), rfl, b1⟩
          · cases hy
            exact ⟨D, ps.map prT, rfl, s4 _ _ (s3 _ _ hD2), rfl, b2⟩
        refine ⟨rfl, _, rfl, w, _, rfl, .inl (SqL.of hw), _, _, rfl, rfl, _, rfl, ?_⟩
        have e0 : decide ((0 : Int) < ((ws.map V.str).length : Nat)) = decide (0 < ws.length) := by
          rw [List.length_map]
          exact decide_eq_decide.mpr (by omega)
        rw [e0]
        cases c : decide (0 < ws.length) with
        | false =>
          refine iteF (r2 _ ?_ (Same.refl _))
          rw [List.take_add_one, hws, List.filter_append]
          simp [c]
        | true =>
          refine iteT ⟨⟨_, rfl⟩, _, rfl, " ", w, ws, rfl, rfl, .inl (SqL.of hw), Nat.le_trans hb (by decide), r1 _ _ ?_ (Same.refl _)⟩
          rw [List.take_add_one, hws, List.filter_append]
          simp [c]
      · intro H3 s4 hl3
        have hl3 : H3 D2 = some (.lst (((([ms, ps.map prT] : List (List Str)).take 2).filter fun ws => decide (0 < ws.length)).map fun ws => V.str (Txt.join " " ws))) := hl3
        have e3 : ((([ms, ps.map prT] : List (List Str)).take 2).filter fun ws => decide (0 < ws.length)).map (fun ws => V.str (Txt.join " " ws)) = (((([ms, ps.map prT] : List (List Str)).take 2).filter fun ws => decide (0 < ws.length)).map (fun ws => Txt.join " " ws)).map V.str := by
          rw [List.map_map]
          rfl
        rw [e3] at hl3
        refine ⟨": ", D2, _, rfl, rfl, .inl (SqL.of hl3), ?_, by rw [hP] at k; exact k _ (s12.trans (s3.trans s4))⟩
        refine Nat.le_trans (join_le (n := 81 * 17 + 81 * 2) (m := 2) (fun y hy => ?_) ?_ (by omega)) (by decide)
        · obtain ⟨ws, hws, rfl⟩ := List.mem_map.mp hy
          have := (List.mem_filter.mp hws).1
          simp only [List.take, List.mem_cons, List.not_mem_nil, or_false] at this
          rcases this with rfl | rfl
          · exact Nat.le_trans (join_len _ _) b1
          · exact Nat.le_trans (join_len _ _) b2
        · rw [List.length_map]
          exact Nat.le_trans (List.length_filter_le _ _) (by simp)
theorem ok_law_modes (T : Txt K mg) : FnOk P w K mg base CX0 4 T.f_law_modes T.fd_law_modes ["_law_box_here", "_law_most"] (sp_lmodes K) := by
  refine T.F_law_modes.ok sc_law_modes (fun vs H Q E h => ?_) (fun cdv A outer s H vs Q E hr h => ?_)
  · obtain ⟨H0, p, n, rfl, _⟩ := h
    rfl
  · obtain ⟨H0, p, n, rfl, B, hn, k⟩ := h
    refine ⟨_, (pss_cons (ps_set (i := 2) sc_law_modes.nd rfl (Or.inl rfl) (pe_call (ok_law_names T) hr rfl T.m_law_names T.F_law_names.kp T.b_law_names .nil pass0 (pa_cons (pv 0) (pa_cons (pe_op op_add pe_int (pe_call (ok_law_take T) (hr.mono (by decide)) rfl T.m_law_take T.F_law_take.kp T.b_law_take .nil pass0 (pa_cons (pv 0) (pa_cons (pv 1) pa_nil)))) pa_nil))))
        (pss_cons (ps_par (i := 3) (j := 4) (by rfl) sc_law_modes.nd rfl rfl (by decide) rfl rfl (pa_cons (pe_lst pa_nil) (pa_cons (pe_ix ix_list (pe_lst (pa_cons pe_int (pa_cons pe_int (pa_cons pe_int pa_nil)))) (pe_call (ok_law_take T) (hr.mono (by decide)) rfl T.m_law_take T.F_law_take.kp T.b_law_take .nil pass0 (pa_cons (pv 0) (pa_cons pe_int pa_nil))) (fun _ _ => rfl)) pa_nil)) (by rfl))
        (pss_cons (ps_for PassesOwn.never rfl (pi_list (pv 2)) (pg_name (i := 5) sc_law_modes.nd rfl (Or.inl rfl))
          (pss_one (ps_for PassesOwn.never rfl (pi_list (pv 2)) (pg_name (i := 6) sc_law_modes.nd rfl (Or.inl rfl))
          (pss_one (ps_if (pt_cmpR op_eq (pe_call (ok_law_take T) (hr.mono (by decide)) rfl T.m_law_take T.F_law_take.kp T.b_law_take .nil pass0 (pa_cons (pv 0) (pa_cons (pv 4) pa_nil))) pe_int (nomark _)) (pss_one (ps_expr (pe_bm PySem.F.plainAttrs_list PySem.F.slot_list_append PySem.F.type_list_append mt_append (pv 3) (pa_cons (pe_tup (pa_cons (pv 5) (pa_cons (pv 6) pa_nil))) pa_nil)))) pss_nil)))))
        (pss_one (ps_ret (pe_lst (pa_cons (pv 2) (pa_cons (pv 3) pa_nil)))))))), ?_⟩
    refine ⟨_, rfl, _, rfl, _, rfl, H0, p, n, 8, rfl, B, by omega, by decide, by decide, fun z H1 z0 z1 B1 => ⟨_, _, rfl, rfl, ?_⟩⟩
    obtain ⟨zn, rfl⟩ := Int.eq_ofNat_of_zero_le z0
    refine ⟨H0, p, _, 1 + zn, (by show [V.ref p, V.int (1 + (zn : Int))] = _; rw [show (1 + (zn : Int)) = ((1 + zn : Nat) : Int) by omega]), B1, by omega, by omega, fun q H2 ms s2 hq0 hqp hq hlen _ hok nd B2 => ?_⟩
    have A0 := B2.all
    refine ⟨(by show 0 ≤ sizeLine; decide), fun D hD => ?_⟩
    have hDp : D ≠ p := by
      obtain ⟨_, _, _, hp, _⟩ := B2.box
      exact (ne_of_none hp hD).symm
    have hD0 := A0.1.same.free hD
    have b1 := A0.1.new (o := .lst []) hD
    refine ⟨(by show 3 ≤ sizeLine; decide), fun l3 hl3 => ?_⟩
    have b2 := b1.1.new (o := .lst (([2, 3, 4] : List Int).map V.int)) hl3
    refine ⟨_, rfl, _, p, _, 3, rfl, b2.1, by omega, by decide, by decide, fun zc H3 zc0 zc1 b3 => ?_⟩
    obtain ⟨v, hv, hmv⟩ := atI_in (xs := ([2, 3, 4] : List Int).map V.int) zc0 zc1
    obtain ⟨ch, hch, rfl⟩ := List.mem_map.mp hmv
    have hch2 : 0 < ch ∧ ch < 1000000 := by
      simp only [List.mem_cons, List.not_mem_nil, or_false] at hch
      rcases hch with rfl | rfl | rfl
      all_goals decide
    refine ⟨l3, _, zc, .int ch, rfl, rfl, SqL.of (b3.same _ _ upd_same), hv, _, _, rfl, ?_⟩
    obtain ⟨G0, sG, C0, hG0, hD3, hqG⟩ : ∃ G, Same H0 G ∧ BoxIn G H3 p (n + 50) ∧ G D = none ∧ H3 D = some (.lst []) ∧ G q = some (.lst (ms.map V.str)) := by
      obtain ⟨sL, bL⟩ := less_ok (b1.2.trans b2.2) b3 hD0
      exact ⟨_, A0.2.trans sL, bL.mono (by omega), but_same, b3.same _ _ (b2.2 _ _ upd_same), sL _ _ (by rw [but_ne hqp]; exact hq)⟩
    clear B1 B2 A0 b1 b2 b3 hv hmv hl3 hD hq
    have m8 : ms.length ≤ 8 := by omega
    refine ⟨_, rfl, q, rfl, ⟨_, SqL.of (C0.same _ _ hqG)⟩, for_list (K := K) (a := q) (xs := ms.map V.str) (fun i σ H' => ∃ (v5 v6 : Option V) (G : Hp) (xs : List V) (ps : List Pr), σ = [some (.ref p), some (.int 8), some (.ref q), some (.ref D), some (.int ch), v5, v6] ∧ Same G0 G ∧ BoxIn G H' p (n + 50 + 9 * i) ∧ G D = none ∧ H' D = some (.lst xs) ∧ DpAll K G xs (ps.map prD) ∧ ps.length ≤ 8 * i ∧ ∀ p ∈ ps, p.1 ∈ ms ∧ p.2 ∈ ms) ⟨_, _, G0, [], [], rfl, Same.refl _, C0, hG0, hD3, .nil, Nat.zero_le _, fun p h => (List.not_mem_nil h).elim⟩ (fun i σ H' _ ⟨_, _, _, _, _, _, s, b, _⟩ => SqL.of (b.same _ _ (s _ _ hqG))) ?_ ?_⟩
    · rintro i x σ H4 hx ⟨v5, v6, G, xs, ps, rfl, s4, C, hGD, hHD, hxs, hpl, hpm⟩
      rw [List.getElem?_map] at hx
      obtain ⟨a, ha, rfl⟩ := Option.map_eq_some_iff.mp hx
      have ham := List.mem_of_getElem? ha
      have hi8 : i < 8 := by
        have := (List.getElem?_eq_some_iff.mp ha).1
        omega
      refine ⟨_, rfl, q, rfl, ⟨_, SqL.of (C.same _ _ (s4 _ _ hqG))⟩, for_list (K := K) (a := q) (xs := ms.map V.str) (fun j σ H' => ∃ (v6 : Option V) (G : Hp) (xs : List V) (ps : List Pr), σ = [some (.ref p), some (.int 8), some (.ref q), some (.ref D), some (.int ch), some (.str a), v6] ∧ Same G0 G ∧ BoxIn G H' p (n + 50 + 9 * i + j) ∧ G D = none ∧ H' D = some (.lst xs) ∧ DpAll K G xs (ps.map prD) ∧ ps.length ≤ 8 * i + j ∧ ∀ p ∈ ps, p.1 ∈ ms ∧ p.2 ∈ ms) ⟨_, G, xs, ps, rfl, s4, C, hGD, hHD, hxs, hpl, hpm⟩ (fun j σ H' _ ⟨_, _, _, _, _, s, b, _⟩ => SqL.of (b.same _ _ (s _ _ hqG))) ?_ ?_⟩
      · clear hxs hpl hpm hHD hGD C s4
        rintro j x σ H5 hx ⟨v6, G, xs, ps, rfl, s4, C, hGD, hHD, hxs, hpl, hpm⟩
        rw [List.getElem?_map] at hx
        obtain ⟨b, hb, rfl⟩ := Option.map_eq_some_iff.mp hx
        have hbm := List.mem_of_getElem? hb
        have hj8 : j < 8 := by
          have := (List.getElem?_eq_some_iff.mp hb).1
          omega
        have A := C.all
        have hDA : but H5 p D = some (.lst xs) := by rw [but_ne hDp]; exact hHD
        refine ⟨_, rfl, _, rfl, _, p, _, ch, rfl, A.1, by omega, hch2.1, hch2.2, fun zt H6 zt0 zt1 b6 => ⟨rfl, _, rfl, ?_⟩⟩
        have hD6 := b6.same _ _ hDA
        obtain ⟨sL, bL⟩ := less_ok A.2 b6 hGD
        refine ite2 (fun c => ?_) (fun c => ?_)
        · refine ⟨_, rfl, .inl ⟨rfl, _, .inl (.inl hD6)⟩, _, rfl, _, rfl, (by show 2 ≤ sizeLine; decide), fun t ht => ?_⟩
          have b7 := bL.new (o := .tup [.str a, .str b]) ht
          have ntD : D ≠ t := ne_of_none hD6 ht
          refine ⟨D, xs, .ref t, rfl, rfl, same_new ht _ _ hD6, ?_, ?_⟩
          · rw [dpAll_len hxs, List.length_map]
            exact Nat.lt_of_lt_of_le (show _ < 100 by omega) (by decide)
          · have hk : (upd (but (but H5 p) D) t (.tup [.str a, .str b])) D = none := by rw [upd_ne ntD]; exact but_same
            refine ⟨_, _, _, ps ++ [(a, b)], rfl, s4.trans (sL.trans b7.2), (b7.1.mut hDp hk).mono (by omega), hk, upd_same, ?_, by rw [List.length_append]; simp; omega, fun p hp => ?_⟩
            · rw [List.map_append]
              exact dpAll_snoc (dpAll_mono (sL.trans b7.2) hxs) (.tup (SqT.of upd_same) (.cons (.str _) (.cons (.str _) .nil)))
            · rcases List.mem_append.mp hp with h | h
              · exact hpm p h
              · rw [List.mem_singleton.mp h]
                exact ⟨ham, hbm⟩
        · exact ⟨_, _, xs, ps, rfl, s4.trans sL, bL.mono (by omega), but_same, hD6, dpAll_mono sL hxs, by omega, hpm⟩
      · rintro σ H5 ⟨v6, G, xs, ps, rfl, s4, C, hGD, hHD, hxs, hpl, hpm⟩
        rw [List.length_map] at hpl C
        exact ⟨_, _, G, xs, ps, rfl, s4, C.mono (by omega), hGD, hHD, hxs, by omega, hpm⟩
    · rintro σ H4 ⟨v5, v6, G, xs, ps, rfl, s4, C, hGD, hHD, hxs, hpl, hpm⟩
      rw [List.length_map] at hpl C
      have A := C.all
      have hDA : but H4 p D = some (.lst xs) := by rw [but_ne hDp]; exact hHD
      refine ⟨_, rfl, _, rfl, (by show 2 ≤ sizeLine; decide), fun m hm => ?_⟩
      have b5 := A.1.new (o := .lst [.ref q, .ref D]) hm
      have sA := A.2.trans b5.2
      exact k _ _ m q D ms ps xs (sG.trans (s4.trans sA)) (b5.1.mono (by omega)) upd_same (sA _ _ (s4 _ _ hqG)) (b5.2 _ _ hDA) (dpAll_mono sA hxs) hok nd (by omega) m8 ⟨by omega, hpm⟩ (by omega)
theorem ok_law_against (T : Txt K mg) : FnOk P w K mg base CX0 1 T.f_law_against T.fd_law_against ["_law_model", "_law_mode"] (sp_lagainst K) := by
  refine T.F_law_against.ok sc_law_against (fun vs H Q E h => ?_) (fun cdv A outer s H vs Q E hr h => ?_)
  · obtain ⟨m, l1, l2, a, ms, ps, rfl, _⟩ := h
    rfl
  · obtain ⟨mo, l1, l2, m, ms, ps, rfl, ⟨hmo, sm, xs, sc, dp⟩, hms, hm8, hm, hps, k⟩ := h
    refine ⟨_, (pss_one (ps_ret (pe_lc (own := [("_law_other", 2)]) (g := gName 2) rfl sc_law_against.nd (pi_list (pe_ix ix_list (pv 0) pe_int (fun _ _ => rfl))) (blkOk_by (own := [("_law_other", 2)]) (N := ["_law_model", "_law_mode", "_law_other"]) (sc := defScope s_law_against) (by decide +kernel)) (fun _ _ _ _ _ => (pg_name (i := 2) sc_law_against.nd rfl (Or.inl rfl))) (fun _ _ _ _ _ => (pts_one (PW.pt (pw_or (pt_cmpR (r := rInD K) (op_inD (u65 hr)) (pe_tup (pa_cons (pv 1) (pa_cons (pv 2) pa_nil))) (pe_ix (r := rIxL K) ix_list (pv 0) pe_int (fun _ _ => rfl)) (by rfl)) (pw_or1 (pt_cmpR (r := rInD K) (op_inD (u65 hr)) (pe_tup (pa_cons (pv 2) (pa_cons (pv 1) pa_nil))) (pe_ix (r := rIxL K) ix_list (pv 0) pe_int (fun _ _ => rfl)) (by rfl))))))) (fun _ _ _ _ _ => (pv 2))))), ?_⟩
    refine ⟨_, rfl, mo, _, 0, .ref l1, rfl, rfl, hmo, atI_nat (j := 0) rfl, l1, rfl, ⟨_, sm⟩, fun D hD => ?_⟩
    refine lc_acc walk_list hD (fun H' s' => s'.seq sm) (fun i => ((ms.take i).filter (adj ps m)).map V.str) rfl (fun i hi => ?_) ?_ ?_
    · rw [List.length_map]
      have := List.length_filter_le (adj ps m) (ms.take i)
      rw [List.length_take] at this
      exact Nat.lt_of_le_of_lt (Nat.le_trans this (Nat.le_trans (Nat.min_le_right _ _) hm8)) (by decide)
    · rintro i x H2 hi hx s1 R S r1 r2
      rw [List.getElem?_map] at hx
      obtain ⟨o, ho, rfl⟩ := Option.map_eq_some_iff.mp hx
      have om : o ∈ ms := List.mem_of_getElem? ho
      have step : ((ms.take (i + 1)).filter (adj ps m)).map V.str = if adj ps m o = true then ((ms.take i).filter (adj ps m)).map V.str ++ [V.str o] else ((ms.take i).filter (adj ps m)).map V.str := by
        rw [List.take_add_one, ho]
        cases h : adj ps m o <;> simp [h]
      have c1 := prD_can hms (p := (m, o)) ⟨hm, om⟩
      have c2 := prD_can hms (p := (o, m)) ⟨om, hm⟩
      have psh := prs_sh hms hps.2
      refine ⟨rfl, _, rfl, _, rfl, (by show 2 ≤ sizeLine; decide), fun t ht => ?_⟩
      have s2 := same_new (o := .tup [.str m, .str o]) ht
      have s12 := s1.trans s2
      refine ⟨_, rfl, mo, _, 1, .ref l2, rfl, rfl, s12.seq hmo, atI_nat (j := 1) rfl, prD (m, o), ps.map prD, .tup (SqT.of upd_same) (.cons (.str _) (.cons (.str _) .nil)), .lst (s12.seq sc) (dpAll_mono s12 dp), shaped_iff.mpr ⟨c1.1, by have := c1.2; omega⟩, psh, _, rfl, ?_⟩
      rw [any_prD]
      by_cases h1 : (m, o) ∈ ps
      · have ha : adj ps m o = true := by
          unfold adj
          rw [decide_eq_true h1]
          rfl
        rw [if_pos ha] at step
        exact iteTe (decide_eq_true h1) (iteT ⟨_, rfl, r1 _ _ step s2⟩)
      · refine iteFe (decide_eq_false h1) ⟨_, rfl, _, rfl, (by show 2 ≤ sizeLine; decide), fun t2 ht2 => ?_⟩
        have s3 := s2.trans (same_new (o := .tup [.str o, .str m]) ht2)
        have s13 := s1.trans s3
        refine ⟨_, rfl, mo, _, 1, .ref l2, rfl, rfl, s13.seq hmo, atI_nat (j := 1) rfl, prD (o, m), ps.map prD, .tup (SqT.of upd_same) (.cons (.str _) (.cons (.str _) .nil)), .lst (s13.seq sc) (dpAll_mono s13 dp), shaped_iff.mpr ⟨c2.1, by have := c2.2; omega⟩, psh, _, rfl, ?_⟩
        rw [any_prD]
        by_cases h2 : (o, m) ∈ ps
        · have ha : adj ps m o = true := by
            unfold adj
            rw [decide_eq_true h2, Bool.or_true]
          rw [if_pos ha] at step
          exact iteTe (decide_eq_true h2) ⟨_, rfl, r1 _ _ step s3⟩
        · have ha : adj ps m o = false := by
            unfold adj
            rw [decide_eq_false h1, decide_eq_false h2]
            rfl
          rw [if_neg (by rw [ha]; decide)] at step
          exact iteFe (decide_eq_false h2) (r2 _ step s3)
    · intro H2 s1 hl
      have hl : H2 D = some (.lst (((ms.take (ms.map V.str).length).filter (adj ps m)).map V.str)) := hl
      rw [List.length_map, List.take_length] at hl
      exact k H2 D s1 hD hl
theorem ok_law_pairs (T : Txt K mg) : FnOk P w K mg base CX0 2 T.f_law_pairs T.fd_law_pairs ["_law_model"] (sp_lpairs K) := by
  refine T.F_law_pairs.ok sc_law_pairs (fun vs H Q E h => ?_) (fun cdv A outer s H vs Q E hr h => ?_)
  · obtain ⟨m, l1, l2, ms, ps, rfl, _⟩ := h
    rfl
  · obtain ⟨mo, l1, l2, ms, ps, rfl, hM, hms, hm8, hps, k⟩ := h
    refine ⟨_, (pss_cons (ps_set (i := 1) sc_law_pairs.nd rfl (Or.inr rfl) (pe_ix ix_list (pv 0) pe_int (fun _ _ => rfl)))
        (pss_cons (ps_set (i := 2) sc_law_pairs.nd rfl (Or.inl rfl) (pe_lst pa_nil))
        (pss_cons (ps_for PassesOwn.never rfl (pi_range1 rfl T.z_range (pa_cons (pe_callB (id := "len") call_len_seq (by rfl) T.z_len (by decide +kernel) (pa_cons (pv 1) pa_nil)) pa_nil)) (pg_name (i := 3) sc_law_pairs.nd rfl (Or.inr rfl))
          (pss_one (ps_set (i := 2) sc_law_pairs.nd rfl (Or.inl rfl) (pe_op op_cat (pv 2) (pe_lc (own := [("_law_other", 4)]) (g := gName 4) rfl sc_law_pairs.nd (pi_list (pe_slice sl_list (pv 1) (po_some (pv 3)) po_none)) (blkOk_by (own := [("_law_other", 4)]) (N := ["_law_model", "_law_modes_here", "_law_found", "_law_k", "_law_other"]) (sc := defScope s_law_pairs) (by decide +kernel)) (fun _ _ _ _ _ => (pg_name (i := 4) sc_law_pairs.nd rfl (Or.inl rfl))) (fun _ _ _ _ _ => (pts_one (pt_cmpR (r := rIn K false) op_in_seq (pv 4) (pe_call (ok_law_against T) hr rfl T.m_law_against T.F_law_against.kp T.b_law_against .nil pass0 (pa_cons (pv 0) (pa_cons (pe_ix (r := rIxL K) ix_list (pv 1) (pv 3) (fun _ _ => rfl)) pa_nil))) (by rfl)))) (fun _ _ _ _ _ => (pe_tup (pa_cons (pe_ix (r := rIxL K) ix_list (pv 1) (pv 3) (fun _ _ => rfl)) (pa_cons (pv 4) pa_nil)))))))))
        (pss_one (ps_ret (pv 2)))))), ?_⟩
    obtain ⟨hmo, sm, xs, sc, dp⟩ := id hM
    refine ⟨_, rfl, mo, _, 0, .ref l1, rfl, rfl, hmo, atI_nat (j := 0) rfl, (by show 0 ≤ sizeLine; decide), fun D hD => ?_⟩
    have l9 : (ms.map V.str).length = ms.length := List.length_map _
    refine ⟨_, rfl, l1, _, rfl, .inl (same_new hD |>.seq sm), _, rfl, ?_, ?_, for_range (fun i σ H' => ∃ (D : Addr) (v3 : Option V) (zs : List V), σ = [some (.ref mo), some (.ref l1), some (.ref D), v3, none] ∧ Same H H' ∧ H D = none ∧ H' D = some (.lst zs) ∧ DpAll K H' zs ((prsA (ag ms ps) ms i).map prD)) ⟨D, none, [], rfl, same_new hD, hD, upd_same, .nil⟩ ?_ ?_⟩
    · omega
    · rw [l9]
      omega
    · rintro i σ H1 hi ⟨D1, v3, zs, rfl, s1, hD1, hHD, hzs⟩
      have hi : i < ms.length := by
        rw [l9] at hi
        omega
      have hm : ms[i]? = some ms[i] := List.getElem?_eq_getElem hi
      have mm : ms[i] ∈ ms := List.getElem_mem hi
      have ati : atI (ms.map V.str) (0 + (i : Int)) = some (.str ms[i]) := by
        rw [Int.zero_add]
        exact atI_nat (by rw [List.getElem?_map, hm]; rfl)
      refine ⟨_, rfl, _, rfl, _, rfl, _, rfl, l1, _, rfl, s1.seq sm, fun q hq => ?_⟩
      rw [Int.zero_add, cut_dropV (ms.map V.str) (by rw [l9]; omega), ← List.map_drop]
      rw [Int.zero_add] at ati
      have s2 := s1.trans (same_new (o := .lst ((ms.drop i).map V.str)) hq)
      have hq2 : (upd H1 q (.lst ((ms.drop i).map V.str))) q = some (.lst ((ms.drop i).map V.str)) := upd_same
      have hz2 := dpAll_mono (same_new (o := .lst ((ms.drop i).map V.str)) hq) hzs
      have hHD2 := same_new (o := .lst ((ms.drop i).map V.str)) hq _ _ hHD
      generalize hS : ms[i] = a at mm ati hm
      generalize upd H1 q (.lst ((ms.drop i).map V.str)) = H2 at s2 hq2 hz2 hHD2
      refine ⟨q, rfl, ⟨_, SqL.of hq2⟩, fun E9 hE => ?_⟩
      refine lc_it walk_list (fun j H' => Same H2 H' ∧ ∃ ys, H' E9 = some (.lst ys) ∧ DpAll K (but H' E9) ys (((((ms.drop i).take j).filter fun o => decide (o ∈ ag ms ps a)).map fun o => (a, o)).map prD)) ⟨same_new hE, [], upd_same, .nil⟩ (fun j H' _ ⟨s, _⟩ => SqL.of (s _ _ hq2)) ?_ ?_
      · rintro j x H3 H4 hj ⟨s3, ys, hE3, hys⟩ ⟨rfl, hx⟩
        rw [List.getElem?_map] at hx
        obtain ⟨o, ho, rfl⟩ := Option.map_eq_some_iff.mp hx
        have s4 := s2.trans s3
        have step := filt_take (f := fun o => decide (o ∈ ag ms ps a)) ho
        refine ⟨rfl, _, rfl, _, rfl, _, rfl, _, rfl, l1, _, _, _, rfl, rfl, s4.seq sm, ati, mo, l1, l2, a, ms, ps, rfl, hM.mono s4, hms, hm8, mm, hps, fun H5 q5 s5 nq5 hq5 => ?_⟩
        refine ⟨q5, _, rfl, .inl (SqL.of hq5), rfl, flat_strs _, _, rfl, ?_⟩
        show (if (inV (.str o) ((ag ms ps a).map V.str)) = true then _ else _)
        rw [in_strs]
        have hE5 := s5 _ _ hE3
        have hys5 := dpAll_mono (but_of (x := E9) s5) hys
        have s35 := s3.trans s5
        cases c : decide (o ∈ ag ms ps a) with
        | false =>
          rw [if_neg (by rw [c]; decide), List.append_nil] at step
          exact iteF ⟨s35, ys, hE5, by rw [step]; exact hys5⟩
        | true =>
          rw [if_pos (by rw [c])] at step
          refine iteT ⟨_, rfl, _, rfl, l1, _, _, _, rfl, rfl, (s2.trans s35).seq sm, ati, _, rfl, (by show 2 ≤ sizeLine; decide), fun t2 ht2 => ?_⟩
          have nt : t2 ≠ E9 := (ne_of_none hE5 ht2).symm
          have s6 := same_new (o := .tup [.str a, .str o]) ht2
          refine ⟨ys, s6 _ _ hE5, ?_, ?_⟩
          · rw [dpAll_len hys, List.length_map, List.length_map]
            have a2 : (((ms.drop i).take j).filter fun o => decide (o ∈ ag ms ps a)).length ≤ ms.length := Nat.le_trans (List.length_filter_le _ _) (by rw [List.length_take, List.length_drop]; omega)
            exact Nat.lt_of_lt_of_le (show _ < 100 by omega) (by decide)
          · have sb : Same (but H5 E9) (but (upd (upd H5 t2 (.tup [.str a, .str o])) E9 (.lst (ys ++ [.ref t2]))) E9) := (but_of s6).trans (but_upd _ _ _)
            refine ⟨fun b u e => ?_, _, upd_same, ?_⟩
            · rw [upd_ne (ne_of_none e hE)]
              exact s6 _ _ (s35 _ _ e)
            · have e : ((((ms.drop i).take (j + 1)).filter fun o => decide (o ∈ ag ms ps a)).map fun o => (a, o)).map prD = ((((ms.drop i).take j).filter fun o => decide (o ∈ ag ms ps a)).map fun o => (a, o)).map prD ++ [prD (a, o)] := by
                rw [step]
                simp
              rw [e]
              exact dpAll_snoc (dpAll_mono sb hys5) (.tup (SqT.of (by rw [but_ne nt, upd_ne nt]; exact upd_same)) (.cons (.str _) (.cons (.str _) .nil)))
      · rintro H3 ⟨s3, ys, hE3, hys⟩
        rw [List.length_map, List.take_length, ← outP_at hm] at hys
        have hys := dpAll_mono (but_le _ _) hys
        have hz3 := dpAll_mono s3 hz2
        refine ⟨D1, E9, zs, ys, rfl, rfl, s3 _ _ hHD2, hE3, ?_, fun r hr => ?_⟩
        · have a1 := prsA_len (ag ms ps) ms i
          have a2 : i * ms.length ≤ 8 * 8 := Nat.mul_le_mul (by omega) hm8
          have a3 : (outP (ag ms ps) (ms.drop i)).length ≤ 8 := by
            rw [outP_at hm, List.length_map]
            exact Nat.le_trans (List.length_filter_le _ _) (by rw [List.length_drop]; omega)
          rw [dpAll_len hz3, dpAll_len hys, List.length_map, List.length_map]
          exact Nat.le_trans (show _ ≤ 100 by omega) (by decide)
        · have s4 := s2.trans (s3.trans (same_new (o := .lst (zs ++ ys)) hr))
          refine ⟨r, _, _, rfl, s4, (s2.trans s3).free hr, upd_same, ?_⟩
          rw [prsA_succ, List.map_append]
          exact dpAll_app (dpAll_mono (same_new hr) hz3) (dpAll_mono (same_new hr) hys)
    · rintro σ H1 ⟨D1, v3, zs, rfl, s1, hD1, hHD, hzs⟩
      have en : (((ms.map V.str).length : Nat) : Int).toNat = ms.length := by rw [l9]; omega
      rw [en] at hzs
      exact ⟨_, rfl, k H1 D1 zs s1 hD1 hHD hzs⟩
theorem ok_InvalidText_init (T : Txt K mg) : FnOk P w K mg base CX0 1 T.f_InvalidText_init T.fd_InvalidText_init ["self", "value"] (sp_xinit K T.C_InvalidText "value") := by
  refine T.F_InvalidText_init.ok sc_InvalidText_init (fun vs H Q E h => ?_) (fun cdv A outer s H vs Q E hr h => ?_)
  · obtain ⟨a, v, rfl, _⟩ := h
    rfl
  · obtain ⟨a, v, rfl, x, n, ha, k⟩ := h
    refine ⟨_, (pss_one (ps_ost (pv 0) (pv 1))), ?_⟩
    exact ⟨_, rfl, _, rfl, a, T.C_InvalidText, rfl, x, n, .inl ⟨ha, k⟩⟩
theorem ok_hot_InvalidText_init (T : Txt K mg) : L2H.FnH P w K mg base CX0 1 T.f_InvalidText_init T.fd_InvalidText_init ["self", "value"] (sp_xinit K T.C_InvalidText "value") := by
  refine okHot T.F_InvalidText_init sc_InvalidText_init (fun vs H Q E h => ?_) (fun cdv A outer s H vs Q E p h => ?_)
  · obtain ⟨a, v, rfl, _⟩ := h
    rfl
  · obtain ⟨a, v, rfl, x, n, ha, k⟩ := h
    exact ⟨_, (pss_one (ps_ost (pv 0) (pv 1))), _, rfl, _, rfl, a, T.C_InvalidText, rfl, x, n, .inl ⟨ha, k⟩⟩
theorem ok_parsed_strengths (T : Txt K mg) : FnOk P w K mg base (L2N.CX P w) 7 T.f_parsed_strengths T.fd_parsed_strengths ["text"] (sp_parsed K T.C_Strengths (C6 T)) := by
  refine okXN T.F_parsed_strengths sc_parsed_strengths (fun vs H Q E h => ?_) (fun cdv A outer s H vs Q E hr h => ?_)
  · obtain ⟨t, rfl, _⟩ := h
    rfl
  · obtain ⟨t, rfl, ht, k1, k2⟩ := h
    refine ⟨_, (pss_cons (ps_asg (pe_partition (pv 0) pe_str) (pg_tup rfl (pgs_cons (pg_name (i := 1) sc_parsed_strengths.nd rfl (Or.inl rfl)) (pgs_cons (pg_name (i := 2) sc_parsed_strengths.nd rfl (Or.inl rfl)) (pgs_cons (pg_name (i := 3) sc_parsed_strengths.nd rfl (Or.inl rfl)) pgs_nil)))))
        (pss_cons (ps_set (i := 4) sc_parsed_strengths.nd rfl (Or.inl rfl) (pe_ifExp (pt_cmpR op_eq (pv 3) pe_str (nomark _)) (pe_lst pa_nil) (pe_split (pv 3) pe_str)))
        (pss_one (ps_ret (pe_makeS T.mk_Strengths (ok_Strengths_init T) hr rfl T.g_Strengths T.b_Strengths_init (passAt_of (passCN (L2N.takes_of rfl rfl rfl rfl))) (pa_cons (pe_split (pv 1) pe_str) (pa_cons (pe_lc (own := [("pair", 5)]) (g := gName 5) (tt := tYes) rfl sc_parsed_strengths.nd (pi_list (pv 4)) (blkOk_by (own := [("pair", 5)]) (N := ["text", "modes", "_", "told", "pairs", "pair"]) (sc := defScope s_parsed_strengths) (by decide +kernel)) (fun _ _ _ _ _ => (pg_name (i := 5) sc_parsed_strengths.nd rfl (Or.inl rfl))) (fun _ _ _ _ _ => pts_nil) (fun _ _ _ _ _ => (pe_callTy (T := "tuple") (r := rTupOfN K) call_tuple_of (by rfl) T.z_tuple (by decide +kernel) (pa_cons (show PE _ _ (tM1 rSplitN _ _) from (pe_split (pv 5) pe_str)) pa_nil)))) pa_nil))))))), ?_⟩
    have tl := ht.1
    have b2 : ∀ {s : Str}, s.length ≤ 1000 → s.length + 2 ≤ sizeLine := fun h => Nat.le_trans (Nat.add_le_add_right h 2) (by show 1002 ≤ sizeLine; decide)
    obtain ⟨oh, ob⟩ := part_ok ht
    refine ⟨_, rfl, ⟨t, rfl⟩, t, ": ", rfl, rfl, by decide +kernel, Nat.le_trans tl (by decide), fun p hp => ?_⟩
    have s1 := same_new (o := .tup [.str (Txt.partition t ": ").1, .str (Txt.partition t ": ").2.1, .str (Txt.partition t ": ").2.2]) hp
    unfold progP at k1 k2
    generalize hh : (Txt.partition t ": ").1 = hd at oh k1 k2 s1
    generalize hb : (Txt.partition t ": ").2.2 = bd at ob k1 k2 s1
    refine ⟨p, _, rfl, SqT.of upd_same, rfl, _, _, rfl, _, _, rfl, _, _, rfl, rfl, ?_⟩
    refine ⟨_, rfl, rfl, _, rfl, ?_⟩
    refine list_or_split (s := bd) rfl ob.1 fun pl H2 ws s2 hpl hws => ?_
    have ee : ("" : Str) = Str.empty := by decide +kernel
    have ew : ws = if bd = Str.empty then [] else Txt.split bd " " := by
      rw [hws]
      by_cases z : bd = Str.empty
      · rw [if_pos z, if_pos (decide_eq_true (by rw [z, ee]))]
      · rw [if_neg z, if_neg fun h => z (by
          have := of_decide_eq_true h
          injection this with this)]
    rw [← ew] at k1 k2
    have wok : (∀ w ∈ ws, tOk w) ∧ ws.length ≤ 1001 := by
      rw [ew]
      by_cases z : bd = Str.empty
      · rw [if_pos z]
        exact ⟨fun w hw => (List.not_mem_nil hw).elim, Nat.zero_le _⟩
      · rw [if_neg z]
        exact split_ok split_sp ob
    obtain ⟨hok, hlen⟩ := split_ok split_sp oh
    have h1 : 1 ≤ (Txt.split hd " ").length := by
      rw [← SX.S_tl hd, split_sp, List.length_map]
      exact List.length_pos_iff.mpr (spl_ne 32 _ _)
    clear ew hws hh hb
    refine ⟨_, rfl, ⟨hd, rfl⟩, hd, " ", rfl, rfl, by decide +kernel, b2 oh.1, fun lm hlm => ⟨_, rfl, pl, rfl, ⟨_, SqL.of (same_new hlm _ _ hpl)⟩, fun D hD => ?_⟩⟩
    have s3 := same_new (o := .lst ((Txt.split hd " ").map V.str)) hlm
    have hl3 : (upd H2 lm (.lst ((Txt.split hd " ").map V.str))) lm = some (.lst ((Txt.split hd " ").map V.str)) := upd_same
    have hp3 := s3 _ _ hpl
    have s03 := s1.trans (s2.trans s3)
    generalize Txt.split hd " " = hw at hl3 hok hlen h1 k1 k2 s3 hD hp3 s03
    generalize upd H2 lm (.lst (hw.map V.str)) = H3 at hl3 hp3 s03 hD s3
    refine lc_it walk_list (fun i H' => Same H3 H' ∧ ∃ zs, H' D = some (.lst zs) ∧ DpAll K (but H' D) zs ((ws.take i).map tupD)) ⟨same_new hD, [], upd_same, .nil⟩ (fun i H' _ ⟨s, _⟩ => SqL.of (s _ _ hp3)) ?_ ?_
    · rintro i y H4 H5 hi ⟨s4, zs, hz, dz⟩ ⟨rfl, hy⟩
      rw [List.getElem?_map] at hy
      obtain ⟨w, hw', rfl⟩ := Option.map_eq_some_iff.mp hy
      refine ⟨rfl, tyes ⟨_, rfl, ⟨w, rfl⟩, w, "!", rfl, rfl, by decide +kernel, b2 (wok.1 w (List.mem_of_getElem? hw')).1, fun q hq => ⟨q, _, rfl, .inl ⟨SqL.of upd_same, fun tt htt => ?_⟩⟩⟩⟩
      have s5 := same_new (o := .lst ((Txt.split w "!").map V.str)) hq
      have s6 := same_new (o := .tup ((Txt.split w "!").map V.str)) htt
      have hz6 := s6 _ _ (s5 _ _ hz)
      have nt : tt ≠ D := (ne_of_none (s5 _ _ hz) htt).symm
      refine ⟨zs, hz6, ?_, ?_⟩
      · have := dpAll_len dz
        rw [List.length_map, List.length_take] at this
        rw [this]
        exact Nat.lt_of_le_of_lt (Nat.le_trans (Nat.min_le_right _ _) wok.2) (by decide)
      · refine ⟨fun b u e => ?_, _, upd_same, ?_⟩
        · rw [upd_ne (ne_of_none e hD)]
          exact s6 _ _ (s5 _ _ (s4 _ _ e))
        · have e1 : (ws.take (i + 1)).map tupD = (ws.take i).map tupD ++ [tupD w] := by
            rw [List.take_add_one, hw', List.map_append]
            rfl
          rw [e1]
          exact dpAll_snoc (dpAll_mono ((but_of (s5.trans s6)).trans (but_upd _ _ _)) dz) (.tup (SqT.of (by rw [but_ne nt, upd_ne nt]; exact upd_same)) (dpAll_strs _))
    · rintro H4 ⟨s4, zs, hz, dz⟩
      rw [List.length_map, List.take_length] at dz
      obtain ⟨r, ms, ps, both, i1, i2⟩ := both_prog (K := K) (H := H4) (lm := lm) (D := D) (SqL.of (s4 _ _ hl3)) hok hlen h1 (SqL.of hz) (dpAll_mono (but_le _ _) dz) wok.1 wok.2
      intro x dx hx hdx ne
      have sH : Same H4 (upd (upd H4 dx (.own x)) x (.ins T.C_Strengths dx [])) := fun b u e => by
        rw [upd_ne (ne_of_none e hx), upd_ne (ne_of_none e hdx)]
        exact e
      have sB : Same H4 (but (upd (upd H4 dx (.own x)) x (.ins T.C_Strengths dx [])) x) := fun b u e => by
        rw [but_ne (ne_of_none e hx)]
        exact sH _ _ e
      have s04 := s03.trans s4
      have le5 : ∀ q, r = some q → q.1 ≤ 5 := fun q e => by
        have := both.le q e
        omega
      obtain ⟨r1, ms1, hm, hq1, hgo⟩ := both.split
      refine ⟨x, dx, .ref lm, .ref D, r1, ms1, rfl, upd_same, hm.mono sB, fun q e => ?_, fun e => ?_⟩
      · exact (k1 (i2 q (hq1 q e)) q (le5 q (hq1 q e))).back (s04.trans sH)
      · obtain ⟨rfl, hc⟩ := hgo e
        refine ⟨r, ps, hc.mono sB, fun q er => (k1 (i2 q er) q (le5 q er)).back (s04.trans sH), fun er H5 hk st => ⟨rfl, k2 _ _ (i1 er) H5 x (fun b u e => hk b u (sH _ _ (s04 _ _ e)) (ne_of_none (s04 _ _ e) hx)) st.at_⟩⟩
theorem ok_read_strengths (T : Txt K mg) : FnOk P w K mg base (L2.CX P w) 8 T.f_read_strengths T.fd_read_strengths ["text"] (sp_readS K T.C_Strengths T.C_InvalidText) := by
  refine T.F_read_strengths.okX sc_read_strengths (fun vs H Q E h => ?_) (fun cdv A outer s H vs Q E hr h => ?_)
  · obtain ⟨v, o, rfl, _⟩ := h
    rfl
  · obtain ⟨v, o, rfl, hv, k1, k2⟩ := h
    refine ⟨_, (pss_cons (ps_if (pt_not (pt_val (pe_callB (id := "isinstance") call_isi (by rfl) T.z_isinstance (by decide +kernel) (pa_cons (pv 0) (pa_cons (pe_bltn (v := .ty "str") (u := .type "str") (by rfl) T.z_str (by decide +kernel) rfl) pa_nil))))) (pss_one (ps_raise rfl (takes_of rfl rfl rfl rfl) (pmk_oex T.x_InvalidText T.i_InvalidText T.t_InvalidText (ok_InvalidText_init T) (hr.mono (by decide)) T.b_InvalidText_init .nil pass0 rfl T.g_InvalidText (pa_cons (pv 0) pa_nil)))) pss_nil)
        (pss_cons (L2H.ps_try_onlyX rfl rfl ⟨rfl, by decide, Or.inl T.g_PartsError⟩ (fun _ => PySem.PassesOwnAt.leaving) (takes_of rfl rfl rfl rfl) (fun W pn xe tk _ _ => by exact (pss_one (ps_set (i := 1) sc_read_strengths.nd rfl (Or.inl rfl) (pe_callS (ok_parsed_strengths T) hr rfl T.m_parsed_strengths T.F_parsed_strengths.kp T.b_parsed_strengths (fun σ => passAtN tk σ) (pa_cons (pv 0) pa_nil)))))
          (fun a oe cls d pn _ _ wt hot => by exact (pss_one (L2H.ps_raiseHN hot wt (L2H.pmk5_oexH T.x_InvalidText T.i_InvalidText T.t_InvalidText (ok_hot_InvalidText_init T) (L2H.roomH_mark (hr.mono (by decide)) _) hot T.b_InvalidText_init pass0 rfl T.g_InvalidText (pa_cons (pv 0) pa_nil))))))
        (pss_cons (ps_if (pt_cmpR op_ne (pe_callTy (T := "str") (call_strI (ok_Strengths_str T) (hr.mono (by decide)) T.b_Strengths_str T.me_Strengths_str.at_ T.me_Strengths_str.fn pass0) (by rfl) T.z_str (by decide +kernel) (pa_cons (pv 1) pa_nil)) (pv 0) (nomark _)) (pss_one (ps_raise rfl (takes_of rfl rfl rfl rfl) (pmk_oex T.x_InvalidText T.i_InvalidText T.t_InvalidText (ok_InvalidText_init T) (hr.mono (by decide)) T.b_InvalidText_init .nil pass0 rfl T.g_InvalidText (pa_cons (pv 0) pa_nil)))) pss_nil)
        (pss_one (ps_ret (pv 1)))))), ?_⟩
    have ic := T.ic_Strengths
    have e6 : ∀ n : Nat, PySem.W.exmOne K (.ref (C6 T n)) (.ref T.C_PartsError) = some true := fun n => match n with
      | 0 => T.e_InvalidModes_PartsError
      | 1 => T.e_InvalidName_PartsError
      | 2 => T.e_Duplicate_PartsError
      | 3 => T.e_InvalidStrengths_PartsError
      | 4 => T.e_InvalidClash_PartsError
      | _ + 5 => T.e_UnknownMode_PartsError
    rcases hv with hv | ⟨rfl, a, dx, fs, rfl, ha⟩
    · refine ⟨_, rfl, _, _, _, _, _, rfl, .ty _, hv.ty, kit_o o (.inr (.inr (.inl rfl))), _, rfl, ?_⟩
      cases e : isT "str" o with
      | false => exact iteT ⟨_, rfl, raise_x T.x_InvalidText T.n_InvalidText (k2 fun t z => by rw [z] at e; cases e)⟩
      | true =>
        obtain ⟨t, rfl, rfl, hs, hok⟩ := hv.str_of e
        refine iteF ⟨_, rfl, t, rfl, ⟨hs, hok⟩, fun non q hq => ?_, fun ms ps e2 H1 x s1 st => ?_⟩
        · have k3 := k2 fun t' z => by
            injection z with z
            injection z with z
            rw [← z]
            exact readT_no non
          intro d H' nd hd sm
          exact ⟨true, e6 q.1, fun _ a ha => ⟨_, rfl, raise_x T.x_InvalidText T.n_InvalidText (k3.back sm)⟩, fun z => nomatch z⟩
        · have okm := progP_ok e2
          have hn := okM_names okm
          have l8 := okM_len okm
          have er := readT_of e2
          obtain ⟨dx, lx, dd, kv, hx, _⟩ := id st
          refine ⟨_, rfl, x, dx, _, rfl, hx, x, ms, _, rfl, st, hn, by omega, fun H2 s2 => ⟨_, rfl, _, rfl, rfl, _, rfl, ?_⟩⟩
          by_cases c : textM ms (prsOf (ag ms ps) ms) = t
          · rw [if_pos c] at er
            exact iteFe (by rw [c]; simp) ⟨_, rfl, k1 t ms ps rfl er _ x (s1.trans s2) (st.mono s2)⟩
          · rw [if_neg c] at er
            have k3 := k2 fun t' z => by
              injection z with z
              injection z with z
              rw [← z]
              exact er
            exact iteTe (by rw [decide_eq_false fun z => c (by injection z)]; rfl) ⟨_, rfl, raise_x T.x_InvalidText T.n_InvalidText (k3.back (s1.trans s2))⟩
    · exact ⟨_, rfl, _, _, _, _, _, rfl, .ty _, .base (.ins ha ic.cl ic.ha ic.hn ic.htk ic.hm), T.io_own_Strengths_str, _, rfl, iteT ⟨_, rfl, raise_x T.x_InvalidText T.n_InvalidText (k2 fun t z => nomatch z)⟩⟩
theorem ok_law_text (T : Txt K mg) : FnOk P w K mg base CX0 3 T.f_law_text T.fd_law_text ["_law_model"] (sp_ltext K) := by
  refine T.F_law_text.ok sc_law_text (fun vs H Q E h => ?_) (fun cdv A outer s H vs Q E hr h => ?_)
  · obtain ⟨m, l1, l2, ms, ps, rfl, _⟩ := h
    rfl
  · obtain ⟨m, l1, l2, ms, ps, rfl, hM, hms, hm8, hm1, hps, k⟩ := h
    refine ⟨_, (pss_cons (ps_set (i := 1) sc_law_text.nd rfl (Or.inl rfl) (pe_join pe_str (pe_lc (own := [("_law_one", 2), ("_law_other", 3)]) (g := gTup K 2 (gCons (gName 2) (gCons (gName 3) gNil))) (tt := tYes) rfl sc_law_text.nd (pi_list (pe_call (ok_law_pairs T) hr rfl T.m_law_pairs T.F_law_pairs.kp T.b_law_pairs .nil pass0 (pa_cons (pv 0) pa_nil))) (blkOk_by (own := [("_law_one", 2), ("_law_other", 3)]) (N := ["_law_model", "_law_pairs_here", "_law_one", "_law_other"]) (sc := defScope s_law_text) (by decide +kernel)) (fun _ _ _ _ _ => (pg_tup rfl (pgs_cons (pg_name (i := 2) sc_law_text.nd rfl (Or.inl rfl)) (pgs_cons (pg_name (i := 3) sc_law_text.nd rfl (Or.inl rfl)) pgs_nil)))) (fun _ _ _ _ _ => pts_nil) (fun _ _ _ _ _ => (pe_op op_add_str (pe_op op_add_str (pv 2) pe_str) (pv 3))))))
        (pss_one (ps_ret (pe_op op_add_str (pe_join pe_str (pe_ix ix_list (pv 0) pe_int (fun _ _ => rfl))) (pe_ifExp (pt_cmpR op_ne (pv 1) pe_str (nomark _)) (pe_op op_add_str pe_str (pv 1)) pe_str))))), ?_⟩
    obtain ⟨hmo, sm, _⟩ := id hM
    have z1 : ("!" : Str).length = 1 := by decide +kernel
    have zs : (" " : Str).length = 1 := by decide +kernel
    have zc : (": " : Str).length = 2 := by decide +kernel
    have z4 : 4000 ≤ sizeLine := by decide
    refine ⟨⟨_, rfl⟩, _, rfl, m, l1, l2, ms, ps, rfl, hM, hms, hm8, hps, fun H1 q xs s1 nq hq hxs => ⟨q, rfl, ⟨_, SqL.of hq⟩, fun D hD => ?_⟩⟩
    have hpp := fun p hp => mem_prsOf (f := ag ms ps) (ms := ms) (p := p) hp
    have len64 : (prsOf (ag ms ps) ms).length ≤ 64 := Nat.le_trans (prsA_len _ ms ms.length) (Nat.mul_le_mul hm8 hm8)
    have xl := dpAll_len hxs
    rw [List.length_map] at xl
    generalize prsOf (ag ms ps) ms = pp at hpp len64 hxs xl k
    have tl : ∀ p ∈ pp, (prT p).length ≤ 17 := fun p hp => by
      have h1 := nameS_len (hms _ (hpp p hp).1)
      have h2 := nameS_len (hms _ (hpp p hp).2)
      rw [prT_eq, Str.length_append, Str.length_append]
      omega
    refine lc_acc walk_list hD (fun H' s' => SqL.of (s' _ _ hq)) (fun i => ((pp.take i).map prT).map V.str) rfl (fun i hi => ?_) ?_ ?_
    · rw [List.length_map, List.length_map, List.length_take]
      exact Nat.lt_of_le_of_lt (Nat.le_trans (Nat.min_le_right _ _) len64) (by decide)
    · rintro i y H2 hi hy s2 R S r1 r2
      obtain ⟨t, p, rfl, hp, ht⟩ := prs_at hxs hy
      have hpm := List.mem_of_getElem? hp
      have h1 := nameS_len (hms _ (hpp p hpm).1)
      have h2 := nameS_len (hms _ (hpp p hpm).2)
      refine ⟨t, _, rfl, same_t s2 ht, rfl, _, _, rfl, _, _, rfl, rfl, rfl, tyes ⟨_, rfl, _, _, rfl, rfl, by omega, _, rfl, _, _, rfl, rfl, by rw [Str.length_append]; omega, r1 _ _ ?_ (Same.refl _)⟩⟩
      rw [List.take_add_one, hp, List.map_append, List.map_append, ← prT_eq]
      rfl
    · intro H2 s2 hD2
      have hD2 : H2 D = some (.lst (((pp.take xs.length).map prT).map V.str)) := hD2
      rw [xl, List.take_length] at hD2
      have s12 := s1.trans s2
      have p1 : ∀ y ∈ ms, y.length ≤ 17 := fun y hy => Nat.le_trans (nameS_len (hms y hy)) (by decide)
      have p2 : ∀ y ∈ pp.map prT, y.length ≤ 17 := fun y hy => by
        obtain ⟨p, hp, rfl⟩ := List.mem_map.mp hy
        exact tl p hp
      have b1 := join_le (a := " ") (m := 64) p1 (by omega) (by omega)
      have b2 := join_le (a := " ") (m := 64) p2 (by rw [List.length_map]; exact len64) (by omega)
      have j1 := join_len (" " : Str) ms
      have j2 := join_len (" " : Str) (pp.map prT)
      refine ⟨" ", D, _, rfl, rfl, .inl (SqL.of hD2), Nat.le_trans b2 (by decide), ?_⟩
      refine ⟨⟨_, rfl⟩, _, rfl, m, _, 0, .ref l1, rfl, rfl, s12.seq hmo, atI_nat (j := 0) rfl, " ", l1, ms, rfl, rfl, .inl (s12.seq sm), Nat.le_trans b1 (by decide), _, rfl, rfl, _, rfl, ?_⟩
      have ee : ("" : Str) = Str.empty := by decide +kernel
      by_cases c : pp = []
      · subst c
        refine iteFe (by rw [ee, show Txt.join " " (([] : List Pr).map prT) = Str.empty from join_nil _]; decide +kernel) ⟨_, _, rfl, rfl, ?_, ?_⟩
        · rw [ee]
          exact Nat.le_trans (show (Txt.join " " ms).length + 0 ≤ 4000 by omega) z4
        · rw [ee, text_none]
          exact k _ s12
      · have ne := prs_text c
        refine iteTe (by rw [ee, decide_eq_false fun z => ne (by injection z)]; rfl) ⟨_, rfl, _, _, rfl, rfl, ?_, _, _, rfl, rfl, ?_, ?_⟩
        · rw [zc]
          omega
        · rw [Str.length_append, zc]
          omega
        · rw [text_some hm1 c]
          exact k _ s12
theorem ok_law_is_name (T : Txt K mg) : FnOk P w K mg base CX0 1 T.f_law_is_name T.fd_law_is_name ["_law_value"] (sp_lisname K) := by
  refine T.F_law_is_name.ok sc_law_is_name (fun vs H Q E h => ?_) (fun cdv A outer s H vs Q E hr h => ?_)
  · obtain ⟨t, rfl, _⟩ := h
    rfl
  · obtain ⟨t, rfl, ht, k⟩ := h
    refine ⟨_, (pss_cons (ps_if (PW.pt (pw_or (pt_cmpR op_eq (pv 0) pe_str (nomark _)) (pw_or (pt_cmpR op_lt (pe_callB (id := "len") call_len_str (by rfl) T.z_len (by decide +kernel) (pa_cons (pv 0) pa_nil)) pe_int (nomark _)) (pw_or1 (pt_cmpR op_gt (pe_callB (id := "len") call_len_str (by rfl) T.z_len (by decide +kernel) (pa_cons (pv 0) pa_nil)) pe_int (nomark _)))))) (pss_one (ps_ret pe_bl)) pss_nil)
        (pss_one (ps_ret (pe_cmpR (op_eqD hr.units) (pe_lc (own := [("_law_sign", 1)]) (g := gName 1) rfl sc_law_is_name.nd (pi_str (pv 0)) (blkOk_by (own := [("_law_sign", 1)]) (N := ["_law_value", "_law_sign"]) (sc := defScope s_law_is_name) (by decide +kernel)) (fun _ _ _ _ _ => (pg_name (i := 1) sc_law_is_name.nd rfl (Or.inl rfl))) (fun _ _ _ _ _ => (pts_one (pt_cmpR op_notIn_sign (pv 1) pe_str (by rfl)))) (fun _ _ _ _ _ => (pv 1))) (pe_lst pa_nil) (nomark _))))), ?_⟩
    obtain ⟨hs, hok⟩ := ht
    have hz : t.length ≤ sizeLine := Nat.le_trans hs (by decide)
    refine ⟨_, rfl, rfl, _, rfl, ?_⟩
    unfold nameS at k
    rw [dec_str]
    cases e1 : t == ("table" : Str) with
    | true =>
      rw [e1] at k
      exact iteT (iteT (k H (Same.refl H)))
    | false =>
      rw [e1] at k
      refine iteF ⟨_, rfl, _, rfl, hz, _, _, rfl, rfl, _, rfl, ?_⟩
      by_cases e2 : (1 : Int) ≤ t.length
      · have e2' : decide ((t.length : Int) < 1) = false := decide_eq_false (by omega)
        rw [decide_eq_true e2] at k
        rw [e2']
        refine iteF ⟨_, rfl, _, rfl, hz, _, _, rfl, rfl, _, rfl, ?_⟩
        by_cases e3 : (t.length : Int) ≤ 8
        · have e3' : decide ((8 : Int) < t.length) = false := decide_eq_false (by omega)
          rw [decide_eq_true e3] at k
          rw [e3']
          refine iteF ⟨_, rfl, _, rfl, fun D hD => ?_⟩
          refine lc_acc walk_str hD (fun _ _ => trivial) (fun i => ((t.cps.toList.take i).filter fun c => !okSign c).map fun c => V.str ⟨#[c]⟩) rfl (fun i hi => ?_) ?_ ?_
          · rw [List.length_map]
            have h1 := List.length_filter_le (fun c => !okSign c) (t.cps.toList.take i)
            rw [List.length_take] at h1
            have : t.cps.size ≤ 1000 := hs
            exact Nat.lt_of_le_of_lt h1 (Nat.lt_of_le_of_lt (Nat.min_le_left _ _) (Nat.lt_of_lt_of_le hi (Nat.le_trans this (by decide))))
          · rintro i x H2 hi ⟨c, hc, rfl⟩ s1 R S r1 r2
            have hc' : t.cps.toList[i]? = some c := by rw [Array.getElem?_toList]; exact hc
            refine ⟨rfl, _, rfl, c, _, rfl, rfl, _, rfl, ?_⟩
            rw [← okSign_is]
            cases e4 : okSign c with
            | true =>
              refine iteF (r2 _ ?_ (Same.refl _))
              rw [List.take_add_one, hc']
              simp [e4]
            | false =>
              refine iteT ⟨_, rfl, r1 _ _ ?_ (Same.refl _)⟩
              rw [List.take_add_one, hc']
              simp [e4]
          · intro H2 s1 hl
            have htk : t.cps.toList.take t.cps.size = t.cps.toList := by rw [← Array.length_toList, List.take_length]
            rw [htk] at hl
            refine ⟨Nat.zero_le _, fun q hq => ?_⟩
            have s2 : Same H2 (upd H2 q (.lst [])) := fun b o eb => by
              rw [upd_ne (ne_of_none eb hq)]
              exact eb
            have hq2 : Dp K (upd H2 q (.lst [])) (.ref q) (.list []) := .lst (SqL.of upd_same) .nil
            have hl2 : Dp K (upd H2 q (.lst [])) (.ref D) (.list ((t.cps.toList.filter fun c => !okSign c).map fun c => PyData.str ⟨#[c]⟩)) := by
              refine .lst (SqL.of (s2 _ _ hl)) ?_
              have := dpAll_strs (K := K) (H := upd H2 q (.lst [])) ((t.cps.toList.filter fun c => !okSign c).map fun c => (⟨#[c]⟩ : Str))
              rw [List.map_map, List.map_map] at this
              exact this
            refine ⟨_, _, hl2, hq2, shaped_list (n := 1) (by decide) (fun d hd => ?_), shaped_nil, ?_⟩
            · obtain ⟨c, hc, rfl⟩ := List.mem_map.mp hd
              refine ⟨?_, by simp [PyData.depth]⟩
              simp only [PyData.canLay0]
              exact strOk_sign (strOk_mem hok (List.mem_filter.mp hc).1)
            · rw [eqv_nil]
              have ee : (((t.cps.toList.filter fun c => !okSign c).map fun c => PyData.str ⟨#[c]⟩).isEmpty) = t.cps.toList.all okSign := by
                rw [List.isEmpty_map]
                generalize t.cps.toList = l
                induction l with
                | nil => rfl
                | cons a r ih => cases h : okSign a <;> simp [h, ih]
              rw [ee]
              exact k _ (s1.trans s2)
        · have e3' : decide ((8 : Int) < t.length) = true := decide_eq_true (by omega)
          rw [decide_eq_false e3] at k
          rw [e3']
          exact iteT (k H (Same.refl H))
      · have e2' : decide ((t.length : Int) < 1) = true := decide_eq_true (by omega)
        rw [decide_eq_false e2] at k
        rw [e2']
        exact iteT (iteT (k H (Same.refl H)))
theorem ok_law_bent (T : Txt K mg) : FnOk P w K mg base CX0 2 T.f_law_bent T.fd_law_bent ["_law_box_here", "_law_text_here"] sp_lbent18 := by
  refine T.F_law_bent.ok sc_law_bent (fun vs H Q E h => ?_) (fun cdv A outer s H vs Q E hr h => ?_)
  · obtain ⟨H0, p, n, t, rfl, _⟩ := h
    rfl
  · obtain ⟨H0, p, n, t, rfl, B, ht, t9, hn, k⟩ := h
    refine ⟨_, (pss_cons (ps_set (i := 2) sc_law_bent.nd rfl (Or.inl rfl) (pe_call (ok_law_take T) hr rfl T.m_law_take T.F_law_take.kp T.b_law_take .nil pass0 (pa_cons (pv 0) (pa_cons (pe_op op_add (pe_callB (id := "len") call_len_str (by rfl) T.z_len (by decide +kernel) (pa_cons (pv 1) pa_nil)) pe_int) pa_nil))))
        (pss_cons (ps_set (i := 3) sc_law_bent.nd rfl (Or.inl rfl) (pe_ix ix_list (pe_lst (pa_cons pe_str (pa_cons pe_str (pa_cons pe_str (pa_cons pe_str (pa_cons pe_str (pa_cons pe_str (pa_cons pe_str (pa_cons pe_str (pa_cons pe_str (pa_cons pe_str (pa_cons pe_str pa_nil)))))))))))) (pe_call (ok_law_take T) hr rfl T.m_law_take T.F_law_take.kp T.b_law_take .nil pass0 (pa_cons (pv 0) (pa_cons pe_int pa_nil))) (fun _ _ => rfl)))
        (pss_cons (ps_par (i := 4) (j := 5) (by rfl) sc_law_bent.nd rfl rfl (by decide) rfl rfl (pa_cons (pe_slice sl_str (pv 1) po_none (po_some (pv 2))) (pa_cons (pe_slice sl_str (pv 1) (po_some (pe_op op_add (pv 2) pe_int)) po_none) pa_nil)) (by rfl))
        (pss_one (ps_ret (pe_ix ix_list (pe_lst (pa_cons (pe_op op_add_str (pe_op op_add_str (pv 4) (pv 3)) (pe_slice sl_str (pv 1) (po_some (pv 2)) po_none)) (pa_cons (pe_op op_add_str (pv 4) (pv 5)) (pa_cons (pe_op op_add_str (pe_op op_add_str (pv 4) (pv 3)) (pv 5)) pa_nil)))) (pe_call (ok_law_take T) hr rfl T.m_law_take T.F_law_take.kp T.b_law_take .nil pass0 (pa_cons (pv 0) (pa_cons pe_int pa_nil))) (fun _ _ => rfl))))))), ?_⟩
    have hz : t.length ≤ sizeLine := Nat.le_trans t9 (by decide)
    refine ⟨_, rfl, _, rfl, t, rfl, hz, _, _, rfl, rfl, H0, p, n, _, rfl, B, by omega, by omega, by omega, fun z1 H1 z10 z11 B1 => ?_⟩
    obtain ⟨i, rfl⟩ := Int.eq_ofNat_of_zero_le z10
    refine ⟨(by show 11 ≤ sizeLine; decide), fun l hl => ?_⟩
    have b1 := B1.new (o := .lst (([" ", "a", "!", ":", ": ", "0", "table", " pqa", "!pqa", "b!b", "\n"] : List Str).map V.str)) hl
    refine ⟨_, rfl, _, p, _, 11, rfl, b1.1, by omega, by decide, by decide, fun z2 H2 z20 z21 B2 => ?_⟩
    obtain ⟨mv, hv, hmv⟩ := atI_in (xs := ([" ", "a", "!", ":", ": ", "0", "table", " pqa", "!pqa", "b!b", "\n"] : List Str).map V.str) z20 z21
    obtain ⟨mo, hmo, rfl⟩ := List.mem_map.mp hmv
    have all : ∀ s ∈ ([" ", "a", "!", ":", ": ", "0", "table", " pqa", "!pqa", "b!b", "\n"] : List Str), sOk 5 s := by
      unfold sOk
      decide +kernel
    have ok5 := all mo hmo
    refine ⟨l, _, z2, .str mo, rfl, rfl, SqL.of (B2.same _ _ upd_same), hv, ?_⟩
    have B3 := B2.low b1.2
    have e1 : (i : Int) + 1 = ((i + 1 : Nat) : Int) := by omega
    refine ⟨_, rfl, _, rfl, _, rfl, t, rfl, hz, _, rfl, _, rfl, _, _, rfl, rfl, _, rfl, t, rfl, hz, _, _, rfl, ?_⟩
    rw [e1]
    have lh := cutl t i
    have lt := cutr t (i + 1)
    have lr := cutr t i
    have tok : sOk t.length t := ⟨Nat.le_refl _, ht.2⟩
    have oh := (tok.cut none (some (i : Int))).2
    have ot := (tok.cut (some ((i + 1 : Nat) : Int)) none).2
    have orr := (tok.cut (some (i : Int)) none).2
    have lm := ok5.1
    have hm := ok5.2
    generalize hH : cutS t none (some (i : Int)) = hd at lh oh
    generalize hT : cutS t (some ((i + 1 : Nat) : Int)) none = tl at lt ot
    generalize hR : cutS t (some (i : Int)) none = rs at lr orr
    have z9 : 2000 ≤ sizeLine := by decide
    have il : i ≤ t.length := by omega
    have f1 : (hd ++ mo).length = hd.length + mo.length := Str.length_append _ _
    refine ⟨_, rfl, _, rfl, _, _, rfl, rfl, by omega, _, rfl, _, rfl, _, rfl, t, rfl, hz, _, _, rfl, rfl, ?_, _, rfl, _, rfl, _, _, rfl, rfl, by omega, _, rfl, _, rfl, _, _, rfl, rfl, by omega, _, rfl, _, _, rfl, rfl, by omega, (by show 3 ≤ sizeLine; decide), fun l2 hl2 => ?_⟩
    · rw [hR]
      omega
    rw [hR]
    have b4 := B3.new (o := .lst (([(hd ++ mo) ++ rs, hd ++ tl, (hd ++ mo) ++ tl] : List Str).map V.str)) hl2
    refine ⟨_, rfl, _, p, _, 3, rfl, b4.1, by omega, by decide, by decide, fun z3 H3 z30 z31 B5 => ?_⟩
    obtain ⟨uv, hu, hmu⟩ := atI_in (xs := ([(hd ++ mo) ++ rs, hd ++ tl, (hd ++ mo) ++ tl] : List Str).map V.str) z30 z31
    obtain ⟨u, hu2, rfl⟩ := List.mem_map.mp hmu
    refine ⟨l2, _, z3, .str u, rfl, rfl, SqL.of (B5.same _ _ upd_same), hu, ?_⟩
    have o1 : sOk hd.length hd := ⟨Nat.le_refl _, oh⟩
    have o2 : sOk mo.length mo := ⟨Nat.le_refl _, hm⟩
    have o3 : sOk tl.length tl := ⟨Nat.le_refl _, ot⟩
    have o4 : sOk rs.length rs := ⟨Nat.le_refl _, orr⟩
    have fin : sOk (t.length + 7) u := by
      simp only [List.mem_cons, List.not_mem_nil, or_false] at hu2
      rcases hu2 with rfl | rfl | rfl
      · exact ((o1.app o2).app o4).mono (by omega)
      · exact (o1.app o3).mono (by omega)
      · exact ((o1.app o2).app o3).mono (by omega)
    exact k _ u ((B5.low b4.2).mono (by omega)) ⟨Nat.le_trans fin.1 (by omega), fin.2⟩ fin.1
theorem ok_law_read (T : Txt K mg) : FnOk P w K mg base CX0 4 T.f_law_read T.fd_law_read ["_law_text_here"] (sp_lread K) := by
  refine T.F_law_read.ok sc_law_read (fun vs H Q E h => ?_) (fun cdv A outer s H vs Q E hr h => ?_)
  · obtain ⟨t, rfl, _⟩ := h
    rfl
  · obtain ⟨t, rfl, ht, k1, k2⟩ := h
    refine ⟨_, (pss_cons (ps_set (i := 1) sc_law_read.nd rfl (Or.inl rfl) (pe_split (pv 0) pe_str))
        (pss_cons (ps_set (i := 2) sc_law_read.nd rfl (Or.inr rfl) (pe_split (pe_ix ix_list (pv 1) pe_int (fun _ _ => rfl)) pe_str))
        (pss_cons (ps_setLc (i := 3) (own := [("_law_k", 7)]) (g := gName 7) rfl sc_law_read.nd rfl rfl (sw_true rfl rfl rfl (by decide +kernel)) (pi_range1 rfl T.z_range (pa_cons (pe_callB (id := "len") call_len_seq (by rfl) T.z_len (by decide +kernel) (pa_cons (pv 2) pa_nil)) pa_nil)) (blkOk_by (own := [("_law_k", 7)]) (N := ["_law_text_here", "_law_halves", "_law_modes_here", "_law_names_here", "_law_pairs_here", "_law_word", "_law_parts", "_law_k"]) (sc := defScope s_law_read) (by decide +kernel)) (fun _ _ _ _ _ => (pg_name (i := 7) sc_law_read.nd rfl (Or.inl rfl))) (fun _ _ _ _ _ => (pts_one (PW.pt (pw_or (pt_not (pt_val (pe_call (ok_law_is_name T) (hr.mono (by decide)) rfl T.m_law_is_name T.F_law_is_name.kp T.b_law_is_name .nil pass0 (pa_cons (pe_ix (r := rIxL K) ix_list (pv 2) (pv 7) (fun _ _ => rfl)) pa_nil)))) (pw_or1 (pt_cmpR (r := rIn K false) op_in_seq (pe_ix (r := rIxL K) ix_list (pv 2) (pv 7) (fun _ _ => rfl)) (pe_slice (r := rSlL K) sl_list (pv 2) po_none (po_some (pv 7))) (by rfl))))))) (fun _ _ _ _ _ => (pv 7)))
        (pss_cons (ps_if (PW.pt (pw_or (pt_cmpR op_gt (pe_callB (id := "len") call_len_seq (by rfl) T.z_len (by decide +kernel) (pa_cons (pv 1) pa_nil)) pe_int (nomark _)) (pw_or (pt_cmpR (op_neD hr.units) (pv 3) (pe_lst pa_nil) (nomark _)) (pw_or1 (pt_cmpR op_gt (pe_callB (id := "len") call_len_seq (by rfl) T.z_len (by decide +kernel) (pa_cons (pv 2) pa_nil)) pe_int (nomark _)))))) (pss_one (ps_ret pe_non)) pss_nil)
        (pss_cons (ps_set (i := 4) sc_law_read.nd rfl (Or.inl rfl) (pe_lst pa_nil))
        (pss_cons (ps_for PassesOwn.never rfl (pi_list (pe_ifExp (pt_cmpR op_eq (pe_callB (id := "len") call_len_seq (by rfl) T.z_len (by decide +kernel) (pa_cons (pv 1) pa_nil)) pe_int (nomark _)) (pe_split (pe_ix ix_list (pv 1) pe_int (fun _ _ => rfl)) pe_str) (pe_lst pa_nil))) (pg_name (i := 5) sc_law_read.nd rfl (Or.inl rfl))
          (pss_cons (ps_set (i := 6) sc_law_read.nd rfl (Or.inl rfl) (pe_split (pv 5) pe_str))
        (pss_cons (ps_if (PW.pt (pw_or (pt_cmpR op_ne (pe_callB (id := "len") call_len_seq (by rfl) T.z_len (by decide +kernel) (pa_cons (pv 6) pa_nil)) pe_int (nomark _)) (pw_or (pt_cmpR op_notIn_seq (pe_ix ix_list (pv 6) pe_int (fun _ _ => rfl)) (pv 2) (by rfl)) (pw_or1 (pt_cmpR op_notIn_seq (pe_ix ix_list (pv 6) pe_int (fun _ _ => rfl)) (pv 2) (by rfl)))))) (pss_one (ps_ret pe_non)) pss_nil)
        (pss_one (ps_expr (pe_bm PySem.F.plainAttrs_list PySem.F.slot_list_append PySem.F.type_list_append mt_append (pv 4) (pa_cons (pe_tup (pa_cons (pe_ix ix_list (pv 6) pe_int (fun _ _ => rfl)) (pa_cons (pe_ix ix_list (pv 6) pe_int (fun _ _ => rfl)) pa_nil))) pa_nil)))))))
        (pss_one (ps_ret (pe_ifExp (pt_cmpR op_eq (pe_call (ok_law_text T) hr rfl T.m_law_text T.F_law_text.kp T.b_law_text .nil pass0 (pa_cons (pe_lst (pa_cons (pv 2) (pa_cons (pv 4) pa_nil))) pa_nil)) (pv 0) (nomark _)) (pe_lst (pa_cons (pv 2) (pa_cons (pv 4) pa_nil))) pe_non))))))))), ?_⟩
    have b2 : ∀ {s : Str}, s.length ≤ 1000 → s.length + 2 ≤ sizeLine := fun h => Nat.le_trans (Nat.add_le_add_right h 2) (by show 1002 ≤ sizeLine; decide)
    have z2 : (2 : Nat) ≤ sizeLine := by decide
    obtain ⟨aok, alen⟩ := split_ok split_sep ht
    refine ⟨_, rfl, ⟨t, rfl⟩, t, ": ", rfl, rfl, by decide +kernel, b2 ht.1, fun q1 hq1 => ?_⟩
    obtain ⟨h, r, eh⟩ : ∃ h r, Txt.split t ": " = h :: r := by
      rw [← SX.S_tl t, split_sep, spl_par [58, 32] (by decide)]
      cases TL.par [58, 32] [] t.cps.toList with
      | none => exact ⟨_, _, rfl⟩
      | some p => exact ⟨_, _, rfl⟩
    rw [lawP_eq txS eh] at k1 k2
    rw [eh] at aok alen
    rw [eh]
    have s1 := same_new (o := .lst ((h :: r).map V.str)) hq1
    have f1 : (upd H q1 (.lst ((h :: r).map V.str))) q1 = some (.lst ((h :: r).map V.str)) := upd_same
    clear eh
    generalize upd H q1 (.lst ((h :: r).map V.str)) = H1 at s1 f1
    have hok := aok h List.mem_cons_self
    refine ⟨_, rfl, q1, _, 0, .str h, rfl, rfl, SqL.of f1, atI_nat (j := 0) rfl, ⟨h, rfl⟩, h, " ", rfl, rfl, by decide +kernel, b2 hok.1, fun q2 hq2 => ?_⟩
    obtain ⟨mok, mlen⟩ := split_ok split_sp hok
    have m1 : 1 ≤ (Txt.split h " ").length := by
      rw [← SX.S_tl h, split_sp, List.length_map]
      exact List.length_pos_iff.mpr (spl_ne 32 _ _)
    have s2 := s1.trans (same_new (o := .lst ((Txt.split h " ").map V.str)) hq2)
    have g1 := (same_new (o := .lst ((Txt.split h " ").map V.str)) hq2) _ _ f1
    have f2 : (upd H1 q2 (.lst ((Txt.split h " ").map V.str))) q2 = some (.lst ((Txt.split h " ").map V.str)) := upd_same
    clear f1 s1
    generalize upd H1 q2 (.lst ((Txt.split h " ").map V.str)) = H2 at s2 g1 f2
    generalize Txt.split h " " = ms at mok mlen m1 f2 k1 k2
    refine ⟨_, rfl, q2, _, rfl, .inl (SqL.of f2), ((ms.map V.str).length : Nat), rfl, by omega, by rw [List.length_map]; omega, fun D hD => ?_⟩
    have en : (((ms.map V.str).length : Nat) : Int).toNat = ms.length := by rw [List.length_map]; omega
    refine lc_acc (n := (((ms.map V.str).length : Nat) : Int).toNat) (item := fun i x => x = V.int (0 + (i : Int))) walk_range hD (fun _ _ => trivial) (fun i => (((List.range i).filter (badI ms)).map Int.ofNat).map V.int) rfl (fun i hi => ?_) ?_ ?_
    · rw [List.length_map, List.length_map]
      rw [en] at hi
      have := List.length_filter_le (badI ms) (List.range i)
      rw [List.length_range] at this
      exact Nat.lt_of_le_of_lt this (Nat.lt_of_lt_of_le (show i < 1002 by omega) (by decide))
    · rintro i x H3 hi rfl s3 R S r1 r2
      rw [en] at hi
      have step := range_filter_step (badI ms) i
      obtain ⟨w0, hw0⟩ : ∃ w0, ms[i]? = some w0 := ⟨_, List.getElem?_eq_getElem hi⟩
      have ati : atI (ms.map V.str) (0 + (i : Int)) = some (.str w0) := by
        rw [Int.zero_add]
        exact atI_nat (by rw [List.getElem?_map, hw0]; rfl)
      rw [badI_at hw0] at step
      refine ⟨rfl, _, rfl, _, rfl, q2, _, _, _, rfl, rfl, SqL.of (s3 _ _ f2), ati, w0, rfl, mok w0 (List.mem_of_getElem? hw0), fun H5 s5 => ⟨_, rfl, ?_⟩⟩
      cases e : nameS w0 with
      | false =>
        rw [e, Bool.not_false, Bool.true_or, if_pos rfl] at step
        refine iteT (iteT ⟨_, rfl, r1 _ _ ?_ s5⟩)
        rw [step, List.map_append, List.map_append]
        simp
      | true =>
        rw [e, Bool.not_true, Bool.false_or] at step
        refine iteF ⟨_, rfl, _, rfl, q2, _, _, _, rfl, rfl, SqL.of (s5 _ _ (s3 _ _ f2)), ati, _, rfl, _, rfl, _, rfl, q2, _, rfl, SqL.of (s5 _ _ (s3 _ _ f2)), fun q5 hq5 => ?_⟩
        rw [Int.zero_add, cut_takeV (ms.map V.str) (by rw [List.length_map]; omega), ← List.map_take]
        have s6 := same_new (o := .lst ((ms.take i).map V.str)) hq5
        refine ⟨q5, (ms.take i).map V.str, rfl, .inl (SqL.of upd_same), rfl, flat_strs _, _, rfl, ?_⟩
        show (if (inV (.str w0) ((ms.take i).map V.str)) = true then _ else _)
        rw [in_strs]
        cases c : decide (w0 ∈ ms.take i) with
        | true =>
          rw [c, if_pos rfl] at step
          refine iteT ⟨_, rfl, r1 _ _ ?_ (s5.trans s6)⟩
          rw [step, List.map_append, List.map_append]
          simp
        | false =>
          rw [c, if_neg (by decide)] at step
          exact iteF (r2 _ (by rw [step]) (s5.trans s6))
    intro H3 s3 hl3
    have hl3 : H3 D = some (.lst ((((List.range (((ms.map V.str).length : Nat) : Int).toNat).filter (badI ms)).map Int.ofNat).map V.int)) := hl3
    rw [en] at hl3
    have nb := names_bad ms
    generalize (List.range ms.length).filter (badI ms) = bad at hl3 nb
    have g1 := s3 _ _ g1
    have f2 := s3 _ _ f2
    have s3 := s2.trans s3
    clear hD
    refine ⟨_, rfl, q1, _, rfl, .inl (SqL.of g1), _, _, rfl, rfl, _, rfl, ?_⟩
    have okparts : okMB ms = true → (ms.all nameS && decide ms.Nodup) = true ∧ ms.length ≤ 8 := fun z => by
      unfold okMB at z
      rw [Bool.and_eq_true, Bool.and_eq_true, decide_eq_true_iff (p := ms.length ≤ 8)] at z
      exact ⟨by rw [Bool.and_eq_true]; exact ⟨z.1, z.2.1⟩, z.2.2⟩
    by_cases c1 : (2 : Int) < (((h :: r).map V.str).length : Nat)
    · refine iteTe (decide_eq_true c1) (iteT (k1 (if_neg fun z => ?_) _ s3))
      rw [List.length_map, List.length_cons] at c1
      omega
    refine iteFe (decide_eq_false c1) ⟨_, rfl, Nat.zero_le _, fun q hq => ?_⟩
    have u := same_new (o := .lst []) hq
    have s4 := s3.trans u
    refine ⟨_, _, .lst (SqL.of (u _ _ hl3)) (dpAll_ints _), .lst (SqL.of upd_same) .nil, ints_shaped _, shaped_nil, _, rfl, ?_⟩
    rw [eqv_nil, List.isEmpty_map, List.isEmpty_map, nb]
    have g1 := u _ _ g1
    have f2 := u _ _ f2
    cases good : (ms.all nameS && decide ms.Nodup) with
    | false =>
      refine iteT (iteT (k1 (if_neg fun z => ?_) _ s4))
      rw [(okparts z.2).1] at good
      cases good
    | true =>
    refine iteF ⟨_, rfl, q2, _, rfl, .inl (SqL.of f2), _, _, rfl, rfl, _, rfl, ?_⟩
    by_cases c2 : (8 : Int) < ((ms.map V.str).length : Nat)
    · refine iteTe (decide_eq_true c2) (k1 (if_neg fun z => ?_) _ s4)
      have := (okparts z.2).2
      rw [List.length_map] at c2
      omega
    refine iteFe (decide_eq_false c2) ?_
    rw [List.length_map] at c2
    have ms8 : ms.length ≤ 8 := by omega
    have okm : okMB ms = true := by
      unfold okMB
      rw [Bool.and_eq_true] at good ⊢
      rw [Bool.and_eq_true, decide_eq_true_iff (p := ms.length ≤ 8)]
      exact ⟨good.1, good.2, ms8⟩
    have hn := okM_names okm
    have nd : ms.Nodup := by
      rw [Bool.and_eq_true, decide_eq_true_iff] at good
      exact good.2
    have r1 : r.length ≤ 1 := by
      rw [List.length_map, List.length_cons] at c1
      omega
    rw [if_pos ⟨r1, okm⟩] at k1 k2
    refine ⟨Nat.zero_le _, fun D2 hD2 => ?_⟩
    have u2 := same_new (o := .lst []) hD2
    have e2 : (upd (upd H3 q (.lst [])) D2 (.lst [])) D2 = some (.lst []) := upd_same
    have g1 := u2 _ _ g1
    have n2 : q2 ≠ D2 := ne_of_none f2 hD2
    have f2 := u2 _ _ f2
    have s5 := s4.trans u2
    have hD20 : H D2 = none := s4.free hD2
    clear u u2 hD2 hq hl3 s3 s4
    generalize upd (upd H3 q (.lst [])) D2 (.lst []) = H5 at e2 g1 f2 s5
    refine ⟨_, rfl, q1, _, rfl, .inl (SqL.of g1), rfl, _, rfl, ?_⟩
    have wok : (∀ w ∈ wsR r, tOk w) ∧ (wsR r).length ≤ 1001 := by
      cases r with
      | nil => exact ⟨fun w hw => (List.not_mem_nil hw).elim, Nat.zero_le _⟩
      | cons b r2 => exact split_ok split_sp (aok b (List.mem_cons_of_mem _ List.mem_cons_self))
    refine split_or_list (ws := wsR r) rfl (SqL.of g1) (fun c => ?_) (fun c => ?_) fun pl H6 s6 npl hpl => ?_
    · match r, r1, aok with
      | [b], _, aok => exact ⟨b, atI_nat (j := 1) rfl, (aok b (by simp)).1, rfl⟩
      | [], _, _ => exact absurd (of_decide_eq_true c) (by simp)
    · match r, r1 with
      | [], _ => rfl
      | [b], _ => exact absurd rfl (of_decide_eq_false c)
    have np : pl ≠ D2 := (ne_of_none e2 npl).symm
    have sb : Same H (but H6 D2) := fun b u e => by
      rw [but_ne (ne_of_none e hD20)]
      exact s6 _ _ (s5 _ _ e)
    have p2 : but H6 D2 pl = some (.lst ((wsR r).map V.str)) := by rw [but_ne np]; exact hpl
    have f2 : but H6 D2 q2 = some (.lst (ms.map V.str)) := by rw [but_ne n2]; exact s6 _ _ f2
    have e6 := s6 _ _ e2
    clear s6 npl hpl s5 e2 g1 c1 c2 good nb
    refine ⟨pl, rfl, ⟨_, SqL.of (but_le _ _ _ _ p2)⟩, for_list (K := K) (a := pl) (xs := (wsR r).map V.str) (fun i σ H' => ∃ (v5 v6 : Option V) (zs : List V) (ps : List Pr), σ = [some (.str t), some (.ref q1), some (.ref q2), some (.ref D), some (.ref D2), v5, v6, none] ∧ Same (but H6 D2) H' ∧ H' D2 = some (.lst zs) ∧ DpAll K (but H' D2) zs (ps.map prD) ∧ ps.length ≤ i ∧ (∀ p ∈ ps, p.1 ∈ ms ∧ p.2 ∈ ms) ∧ prsO ms (wsR r) = (prsO ms ((wsR r).drop i)).map (ps ++ ·)) ⟨none, none, [], [], rfl, but_le _ _, e6, .nil, Nat.le_refl _, fun p h => (List.not_mem_nil h).elim, by rw [List.drop_zero]; cases prsO ms (wsR r) <;> rfl⟩ (fun i σ H' _ ⟨_, _, _, _, _, s, _⟩ => SqL.of (s _ _ p2)) ?_ ?_⟩
    · rintro i x σ H7 hx ⟨v5, v6, zs, ps, rfl, s7, hz, dz, pl1, pm, ep⟩
      rw [List.getElem?_map] at hx
      obtain ⟨w, hw, rfl⟩ := Option.map_eq_some_iff.mp hx
      have hi := (List.getElem?_eq_some_iff.mp hw).1
      have wk := wok.1 w (List.mem_of_getElem? hw)
      rw [drop_cons hw] at ep
      refine ⟨_, rfl, ⟨w, rfl⟩, w, "!", rfl, rfl, by decide +kernel, b2 wk.1, fun q3 hq3 => ?_⟩
      have s8 := same_new (o := .lst ((Txt.split w "!").map V.str)) hq3
      have f3 : (upd H7 q3 (.lst ((Txt.split w "!").map V.str))) q3 = some (.lst ((Txt.split w "!").map V.str)) := upd_same
      have hz8 := s8 _ _ hz
      have dz8 := dpAll_mono (but_of (x := D2) s8) dz
      have t8 := s7.trans s8
      have bad : prO ms w = none → ∀ H', Same H H' → Q .non H' := fun e H' s' => by
        refine k1 ?_ H' s'
        rw [ep]
        unfold prsO
        rw [e]
        rfl
      have prw : prO ms w = match Txt.split w "!" with
        | [a, b] => if a ∈ ms ∧ b ∈ ms then some (a, b) else none
        | _ => none := rfl
      clear s8 hz dz s7 hq3
      generalize upd H7 q3 (.lst ((Txt.split w "!").map V.str)) = H8 at f3 hz8 dz8 t8
      have sH8 := sb.trans t8
      generalize Txt.split w "!" = parts at f3 prw
      refine ⟨_, rfl, q3, _, rfl, .inl (SqL.of f3), rfl, _, rfl, ?_⟩
      by_cases c2 : parts.length = 2
      · match parts, c2 with
        | [a, b], _ =>
        have prw : prO ms w = if a ∈ ms ∧ b ∈ ms then some (a, b) else none := prw
        have ia : atI (([a, b] : List Str).map V.str) 0 = some (.str a) := atI_nat (j := 0) rfl
        have ib : atI (([a, b] : List Str).map V.str) 1 = some (.str b) := atI_nat (j := 1) rfl
        have inm : ∀ z : Str, inV (.str z) (ms.map V.str) = decide (z ∈ ms) := fun z => in_strs z ms
        refine iteFe (by simp) ⟨_, rfl, q3, _, 0, .str a, rfl, rfl, SqL.of f3, ia, _, rfl, q2, _, rfl, .inl (SqL.of (t8 _ _ f2)), rfl, flat_strs _, _, rfl, ?_⟩
        show (if (!inV (.str a) (ms.map V.str)) = true then _ else _)
        rw [inm]
        by_cases ca : a ∈ ms
        · refine iteFe (by rw [decide_eq_true ca]; rfl) ⟨_, rfl, q3, _, 1, .str b, rfl, rfl, SqL.of f3, ib, _, rfl, q2, _, rfl, .inl (SqL.of (t8 _ _ f2)), rfl, flat_strs _, _, rfl, ?_⟩
          show (if (!inV (.str b) (ms.map V.str)) = true then _ else _)
          rw [inm]
          by_cases cb : b ∈ ms
          · rw [if_pos ⟨ca, cb⟩] at prw
            refine iteFe (by rw [decide_eq_true cb]; rfl) ⟨_, rfl, .inl ⟨rfl, _, SqL.of hz8⟩, _, rfl, q3, _, 0, .str a, rfl, rfl, SqL.of f3, ia, _, rfl, q3, _, 1, .str b, rfl, rfl, SqL.of f3, ib, z2, fun tt htt => ⟨D2, zs, .ref tt, rfl, rfl, same_new htt _ _ hz8, ?_, ?_⟩⟩
            · have := dpAll_len dz8
              rw [List.length_map] at this
              exact Nat.lt_of_le_of_lt (show zs.length ≤ 1001 by have := wok.2; omega) (by decide)
            · have s9 := same_new (o := .tup [.str a, .str b]) htt
              have nt : tt ≠ D2 := (ne_of_none hz8 htt).symm
              refine ⟨_, _, _, ps ++ [(a, b)], rfl, but_mut (x := D2) ?_, upd_same, ?_, ?_, ?_, ?_⟩
              · exact fun b u e => s9 _ _ (t8 _ _ e)
              · rw [List.map_append]
                exact dpAll_snoc (dpAll_mono ((but_of s9).trans (but_upd _ _ _)) dz8) (.tup (SqT.of (by rw [but_ne nt, upd_ne nt]; exact upd_same)) (.cons (.str _) (.cons (.str _) .nil)))
              · rw [List.length_append, List.length_singleton]
                omega
              · intro p hp
                rcases List.mem_append.mp hp with z | z
                · exact pm p z
                · rw [List.mem_singleton.mp z]
                  exact ⟨ca, cb⟩
              · rw [ep]
                conv => lhs; unfold prsO
                rw [prw]
                cases prsO ms ((wsR r).drop (i + 1)) with
                | none => rfl
                | some y => simp
          · rw [if_neg fun z => cb z.2] at prw
            exact iteTe (by rw [decide_eq_false cb]; rfl) (bad prw _ sH8)
        · rw [if_neg fun z => ca z.1] at prw
          exact iteTe (by rw [decide_eq_false ca]; rfl) (iteT (bad prw _ sH8))
      · have pn : prO ms w = none := by
          rw [prw]
          split
          · exact absurd rfl c2
          · rfl
        refine iteTe ?_ (iteT (bad pn _ sH8))
        rw [decide_eq_false fun z => c2 (by injection z with z; rw [List.length_map] at z; omega)]
        rfl
    · rintro σ H7 ⟨v5, v6, zs, ps, rfl, s7, hz, dz, pl1, pm, ep⟩
      rw [List.length_map] at pl1 ep
      rw [List.drop_length] at ep
      have ep : prsO ms (wsR r) = some ps := by
        rw [ep]
        simp [prsO]
      rw [ep] at k1 k2
      have k1 : (if txS ms ps = t then some (ms, ps) else none) = none → ∀ H', Same H H' → Q .non H' := k1
      have okp : okPs ms ps := ⟨by have := wok.2; omega, pm⟩
      have sH := sb.trans s7
      have f7 := s7 _ _ f2
      have dz := dpAll_mono (but_le _ _) dz
      refine ⟨_, rfl, _, rfl, z2, fun m hm => ?_⟩
      have s8 := same_new (o := .lst [.ref q2, .ref D2]) hm
      refine ⟨m, q2, D2, ms, ps, rfl, ⟨SqL.of upd_same, SqL.of (s8 _ _ f7), _, SqL.of (s8 _ _ hz), dpAll_mono s8 dz⟩, hn, ms8, m1, okp, fun H9 s9 => ⟨_, rfl, rfl, _, rfl, ?_⟩⟩
      have t9 := s8.trans s9
      by_cases c : txS ms ps = t
      · refine iteTe (decide_eq_true (congrArg V.str c)) ⟨_, rfl, _, rfl, z2, fun g hg => ?_⟩
        have s10 := same_new (o := .lst [.ref q2, .ref D2]) hg
        have t10 := t9.trans s10
        exact k2 ms ps (if_pos c) _ g q2 D2 (sH.trans t10) ⟨SqL.of upd_same, SqL.of (t10 _ _ f7), _, SqL.of (t10 _ _ hz), dpAll_mono t10 dz⟩ hn nd m1 ms8 okp
      · exact iteFe (decide_eq_false fun z => c (by injection z)) (k1 (if_neg c) _ (sH.trans t9))
theorem ok_law_told (T : Txt K mg) : FnOk P w K mg base CX0 9 T.f_law_told T.fd_law_told ["_law_value"] (sp_ltold18 K T.C_Strengths) := by
  refine T.F_law_told.ok sc_law_told (fun vs H Q E h => ?_) (fun cdv A outer s H vs Q E hr h => ?_)
  · obtain ⟨v, o, rfl, _⟩ := h
    rfl
  · obtain ⟨v, o, rfl, hv, k1, k2⟩ := h
    refine ⟨_, (pss_one (ps_try_manyAs (i := 1) (n := "e") rfl rfl sc_law_told.nd rfl rfl takes0 (fun W pn xe tk _ => by exact (pss_one (ps_ret (pe_lst (pa_cons pe_str (pa_cons (pe_callS (ok_read_strengths T) hr rfl T.m_read_strengths T.F_read_strengths.kp T.b_read_strengths (fun σ => passAt tk σ) (pa_cons (pv 0) pa_nil)) pa_nil))))))
          (HdsAs.cons ⟨rfl, by decide, Or.inl T.g_InvalidText⟩ (fun a oe cls d pn hz hf => by exact (pss_one (ps_ret (pe_lst (pa_cons pe_str (pa_cons (pe_xf T.y_InvalidText T.n_InvalidText hz hf (pv 1)) pa_nil)))))) HdsAs.nil))), ?_⟩
    have z2 : (2 : Nat) ≤ sizeLine := by decide
    have lk : List.lookup ("value" : Str) [(("value" : Str), v)] = some v := by simp [List.lookup]
    refine ⟨_, rfl, v, o, rfl, hv, fun t ms ps e1 e2 H' x s' st => ⟨z2, fun q hq => k1 t ms ps e1 e2 _ q x (s'.trans (same_new hq)) upd_same (st.mono (same_new hq))⟩, fun non => ?_⟩
    intro d H' nd hd sm
    exact ⟨true, T.e_InvalidText_InvalidText, fun _ a ha => ⟨_, rfl, rfl, rfl, d, _, v, rfl, hd, lk, z2, fun p hp => k2 non _ p (sm.trans (same_new hp)) upd_same⟩, fun q => nomatch q⟩
theorem ok_law (T : Txt K mg) : FnOk P w K mg base CX0 10 T.f_law T.fd_law ["_law_script"] (sp_law K) := by
  refine T.F_law.ok sc_law (fun vs H Q E h => ?_) (fun cdv A outer s H vs Q E hr h => ?_)
  · obtain ⟨a, ns, rfl, _⟩ := h
    rfl
  · obtain ⟨a, ns, rfl, hS, hlen, k⟩ := h
    refine ⟨_, (pss_cons (ps_for PassesOwn.never rfl (pi_range1 rfl T.z_range (pa_cons (pe_callB (id := "max") (call_max2 rfl) (by rfl) T.z_max (by decide +kernel) (pa_cons pe_int (pa_cons (pe_callB (id := "min") (call_min2 rfl) (by rfl) T.z_min (by decide +kernel) (pa_cons pe_int (pa_cons (pe_callB (id := "len") call_len_seq (by rfl) T.z_len (by decide +kernel) (pa_cons (pv 0) pa_nil)) pa_nil))) pa_nil))) pa_nil)) (pg_name (i := 1) sc_law.nd rfl (Or.inl rfl))
          (pss_cons (ps_set (i := 2) sc_law.nd rfl (Or.inl rfl) (pe_call (ok_law_box T) (hr.mono (by decide)) rfl T.m_law_box T.F_law_box.kp T.b_law_box .nil pass0 (pa_cons (pe_call (ok_law_cell T) (hr.mono (by decide)) rfl T.m_law_cell T.F_law_cell.kp T.b_law_cell .nil pass0 (pa_cons (pv 0) (pa_cons (pv 1) pa_nil))) pa_nil)))
        (pss_cons (ps_set (i := 3) sc_law.nd rfl (Or.inl rfl) (pe_call (ok_law_modes T) (hr.mono (by decide)) rfl T.m_law_modes T.F_law_modes.kp T.b_law_modes .nil pass0 (pa_cons (pv 2) (pa_cons pe_int pa_nil))))
        (pss_cons (ps_par (i := 4) (j := 5) (by rfl) sc_law.nd rfl rfl (by decide) rfl rfl (pa_cons (pe_makeS T.mk_Strengths (ok_Strengths_init T) (hr.mono (by decide)) rfl T.g_Strengths T.b_Strengths_init (passAt_of passLN) (pa_cons (pe_ix ix_list (pv 3) pe_int (fun _ _ => rfl)) (pa_cons (pe_ix ix_list (pv 3) pe_int (fun _ _ => rfl)) pa_nil))) (pa_cons (pe_call (ok_law_text T) (hr.mono (by decide)) rfl T.m_law_text T.F_law_text.kp T.b_law_text .nil pass0 (pa_cons (pv 3) pa_nil)) pa_nil)) (by rfl))
        (pss_cons (ps_if (PW.pt (pw_or (pt_cmpR op_ne (pe_callTy (T := "str") (call_strI (ok_Strengths_str T) (hr.mono (by decide)) T.b_Strengths_str T.me_Strengths_str.at_ T.me_Strengths_str.fn pass0) (by rfl) T.z_str (by decide +kernel) (pa_cons (pv 4) pa_nil)) (pv 5) (nomark _)) (pw_or1 (pt_not (pt_cmpR (op_eqI (ok_Strengths_eq T) (hr.mono (by decide)) T.b_Strengths_eq T.me_Strengths_eq.at_ T.me_Strengths_eq.fn pass0) (pe_call (ok_read_strengths T) (hr.mono (by decide)) rfl T.m_read_strengths T.F_read_strengths.kp T.b_read_strengths .nil passL (pa_cons (pv 5) pa_nil)) (pv 4) (nomark _)))))) (pss_one (ps_ret pe_bl)) pss_nil)
        (pss_cons (ps_for PassesOwn.never rfl (pi_range1 rfl T.z_range (pa_cons pe_int pa_nil)) (pg_name (i := 6) sc_law.nd rfl (Or.inl rfl))
          (C8.pss_cut (ps_set (i := 7) sc_law.nd rfl (Or.inl rfl) (pe_call (ok_law_bent T) (hr.mono (by decide)) rfl T.m_law_bent T.F_law_bent.kp T.b_law_bent .nil pass0 (pa_cons (pv 2) (pa_cons (pe_ifExp (pt_cmpR op_lt (pv 6) pe_int (nomark _)) (pv 5) (pe_call (ok_law_bent T) (hr.mono (by decide)) rfl T.m_law_bent T.F_law_bent.kp T.b_law_bent .nil pass0 (pa_cons (pv 2) (pa_cons (pv 5) pa_nil)))) pa_nil))))
        (pss_cons (ps_set (i := 8) sc_law.nd rfl (Or.inl rfl) (pe_call (ok_law_read T) (hr.mono (by decide)) rfl T.m_law_read T.F_law_read.kp T.b_law_read .nil pass0 (pa_cons (pv 7) pa_nil)))
        (pss_cons (ps_set (i := 9) sc_law.nd rfl (Or.inl rfl) (pe_call (ok_law_told T) hr rfl T.m_law_told T.F_law_told.kp T.b_law_told .nil pass0 (pa_cons (pv 7) pa_nil)))
        (pss_cons (ps_if (PW.pt (pw_or (PW.pt (pw_and (pt_cmpR op_isN (pv 8) pe_non (nomark _)) (pw_and1 (pt_cmpR (op_neU hr.units) (pv 9) (pe_lst (pa_cons pe_str (pa_cons (pv 7) pa_nil))) (nomark _))))) (pw_or1 (PW.pt (pw_and (pt_cmpR op_notN (pv 8) pe_non (nomark _)) (pw_and1 (pt_cmpR op_ne (pe_ix ix_list (pv 9) pe_int (fun _ _ => rfl)) pe_str (nomark _)))))))) (pss_one (ps_ret pe_bl)) pss_nil)
        (pss_cons (ps_if (PW.pt (pw_and (pt_cmpR op_notN (pv 8) pe_non (nomark _)) (pw_and1 (pt_cmpR op_ne (pe_callTy (T := "str") (call_strI (ok_Strengths_str T) (hr.mono (by decide)) T.b_Strengths_str T.me_Strengths_str.at_ T.me_Strengths_str.fn pass0) (by rfl) T.z_str (by decide +kernel) (pa_cons (pe_ix ix_list (pv 9) pe_int (fun _ _ => rfl)) pa_nil)) (pv 7) (nomark _))))) (pss_one (ps_ret pe_bl)) pss_nil)
        (pss_one (ps_if (PW.pt (pw_and (pt_cmpR op_notN (pv 8) pe_non (nomark _)) (pw_and1 (pt_not (pt_cmpR (op_eqI (ok_Strengths_eq T) (hr.mono (by decide)) T.b_Strengths_eq T.me_Strengths_eq.at_ T.me_Strengths_eq.fn pass0) (pe_ix ix_list (pv 9) pe_int (fun _ _ => rfl)) (pe_makeS T.mk_Strengths (ok_Strengths_init T) (hr.mono (by decide)) rfl T.g_Strengths T.b_Strengths_init (passAt_of passLN) (pa_cons (pe_ix ix_list (pv 8) pe_int (fun _ _ => rfl)) (pa_cons (pe_ix ix_list (pv 8) pe_int (fun _ _ => rfl)) pa_nil))) (nomark _)))))) (pss_one (ps_ret pe_bl)) pss_nil))))))))
        (pss_cons (ps_set (i := 10) sc_law.nd rfl (Or.inl rfl) (pe_ix ix_list (pe_lst (pa_cons pe_non (pa_cons pe_int (pa_cons pe_bl (pa_cons (pe_lst (pa_cons (pv 5) pa_nil)) (pa_cons pe_str (pa_cons pe_str (pa_cons (pv 4) (pa_cons pe_dnewK (pa_cons pe_str (pa_cons pe_str pa_nil))))))))))) (pe_call (ok_law_take T) (hr.mono (by decide)) rfl T.m_law_take T.F_law_take.kp T.b_law_take .nil pass0 (pa_cons (pv 2) (pa_cons pe_int pa_nil))) (fun _ _ => rfl)))
        (pss_one (ps_if (pt_cmpR (op_neU hr.units) (pe_call (ok_law_told T) hr rfl T.m_law_told T.F_law_told.kp T.b_law_told .nil pass0 (pa_cons (pv 10) pa_nil)) (pe_lst (pa_cons pe_str (pa_cons (pv 10) pa_nil))) (nomark _)) (pss_one (ps_ret pe_bl)) pss_nil)))))))))
        (pss_one (ps_ret pe_bl))), ?_⟩
    have ic := T.ic_Strengths
    have z2 : (2 : Nat) ≤ sizeLine := by decide
    refine ⟨_, rfl, a, _, rfl, .inl hS, _, _, rfl, _, _, rfl, _, rfl, ?_, ?_, for_range (fun i σ H' => ∃ v1 v2 v3 v4 v5 v6 v7 v8 v9 v10, σ = [some (.ref a), v1, v2, v3, v4, v5, v6, v7, v8, v9, v10] ∧ Same H H') ⟨none, none, none, none, none, none, none, none, none, none, rfl, Same.refl H⟩ ?_ ?_⟩
    · repeat' split
      all_goals omega
    · repeat' split
      all_goals omega
    · rintro i σ H1 hi ⟨v1, v2, v3, v4, v5, v6, v7, v8, v9, v10, rfl, s1⟩
      refine ⟨_, rfl, _, rfl, a, ns, _, rfl, s1.seq hS, (by omega), fun z => ⟨z, rfl, fun p o hp bx => ?_⟩⟩
      have B : BoxIn H1 (upd H1 p o) p 0 := ⟨same_new hp, hp, bx⟩
      refine ⟨_, rfl, H1, p, 0, rfl, B, by decide, fun H2 H3 m l1 l2 ms ps xs s2 B2 hm hl1 hl2 hxs hnn nd ms1 ms8 ok psl => ?_⟩
      have hn : ∀ s ∈ ms, nameS s = true := fun s hs => (hnn s hs).1
      have s12 : Same H H2 := s1.trans s2
      have qm : ∀ {H'}, Same H2 H' → SqL K H' m [.ref l1, .ref l2] := fun s => SqL.of (s _ _ hm)
      have q1 : ∀ {H'}, Same H2 H' → SqL K H' l1 (ms.map V.str) := fun s => SqL.of (s _ _ hl1)
      have q2 : ∀ {H'}, Same H2 H' → SqL K H' l2 xs := fun s => SqL.of (s _ _ hl2)
      have qx : ∀ {H'}, Same H2 H' → DpAll K H' xs (ps.map prD) := fun s => dpAll_mono s hxs
      have i0 : atI [V.ref l1, .ref l2] 0 = some (.ref l1) := atI_nat (j := 0) rfl
      have i1 : atI [V.ref l1, .ref l2] 1 = some (.ref l2) := atI_nat (j := 1) rfl
      have e3 := B2.same
      have pp40 := prs36 (ag ms ps) ms8
      have ppm : ∀ p ∈ prsOf (ag ms ps) ms, p.1 ∈ ms ∧ p.2 ∈ ms := fun p hp => mem_prsOf hp
      obtain ⟨tok, t9⟩ := told_len hn ms8 ms1 ppm pp40
      have tread := readT_told hn nd ms1 ms8 ps
      have tsame := ag_told (ms := ms) ps
      refine ⟨_, rfl, m, _, 0, .ref l1, rfl, rfl, qm e3, i0, _, rfl, m, _, 1, .ref l2, rfl, rfl, qm e3, i1, fun x dx hx hdx ne => ?_⟩
      refine made_ok (ps := ps) hx hdx ne (.ok (q1 e3) hn nd ⟨ms1, ms8⟩) (carg_ok hn (q2 e3) (qx e3) ok) fun H4 s4 st => ⟨rfl, ?_⟩
      have e4 := e3.trans s4
      refine ⟨_, rfl, m, l1, l2, ms, ps, rfl, ⟨qm e4, q1 e4, xs, q2 e4, qx e4⟩, hn, ms8, ms1, ok, fun H5 s5 => ⟨_, _, rfl, ?_⟩⟩
      have hp3 : H3 p ≠ none := by
        obtain ⟨_, _, _, hp, _⟩ := B2.box
        rw [hp]
        exact fun z => nomatch z
      obtain ⟨G, sG, BG, SG⟩ := drop2 (c1 := p) (c2 := p) (H9 := H5) (B2.keep (s4.trans s5)) st hp3 hp3 hp3 hx B2.free B2.free fun b u e _ _ => s5 _ _ e
      clear st hx hdx ne s4 s5 e4 e3 B2 hp3
      generalize hpp : prsOf (ag ms ps) ms = pp at tread tsame tok t9
      generalize hT : textM ms pp = tx at tok t9 tread
      have sx : textM ms (prsOf (ag ms ps) ms) = tx := by rw [hpp, hT]
      obtain ⟨dxx, lx, ddx, kvx, hxx, _⟩ := id (SG.mono BG.same)
      refine ⟨_, rfl, x, dxx, _, rfl, hxx, x, ms, _, rfl, SG.mono BG.same, hn, by omega, fun H6 s6 => ⟨_, rfl, _, rfl, rfl, _, rfl, iteFe ?_ ?_⟩⟩
      · rw [sx]
        simp
      refine ⟨_, rfl, .str tx, some (.str tx), rfl, .inl (tOk_vd tok), fun t' ms' ps' e1 e2 H7 y s7 sty => ?_, fun z => absurd (z tx rfl) (by rw [tread]; exact fun w => nomatch w)⟩
      injection e1 with e1
      injection e1 with e1
      subst e1
      rw [tread] at e2
      injection e2 with e2
      injection e2 with e2 e3
      subst e2 e3
      have B7 := BG.keep (s6.trans s7)
      refine ⟨_, rfl, eqI_str ic sty (SG.mono B7.same) hn hn ⟨_, rfl, iteFe (by rw [eqStr_of tsame]; rfl) ?_⟩⟩
      clear sty s6 s7 BG hxx
      refine ⟨_, rfl, by decide, by decide, for_range (fun j σ H' => ∃ v6 v7 v8 v9 : Option V, σ = [some (.ref a), some (.int (0 + (i : Int))), some (.ref p), some (.ref m), some (.ref x), some (.str tx), v6, v7, v8, v9, v10] ∧ BoxIn G H' p (200 + 10 * j)) ⟨v6, v7, v8, v9, rfl, B7.mono (by omega)⟩ ?_ ?_⟩
      · rintro j σ H8 hj ⟨v6, v7, v8, v9, rfl, B⟩
        have hj : j < 5 := hj
        refine ⟨fun σ H' => ∃ u : Str, σ = [some (.ref a), some (.int (0 + (i : Int))), some (.ref p), some (.ref m), some (.ref x), some (.str tx), some (.int (0 + (j : Int))), some (.str u), v8, v9, v10] ∧ BoxIn G H' p (200 + 10 * (j + 1)) ∧ tOk u, ?_, ?_⟩
        · refine ⟨_, rfl, _, rfl, _, _, rfl, rfl, _, rfl, ?_⟩
          by_cases c : (0 + (j : Int)) < 4
          · exact iteTe (decide_eq_true c) ⟨_, rfl, G, p, _, tx, rfl, B, tok, by omega, by omega, fun H9 u B9 uok _ => ⟨u, rfl, B9.mono (by omega), uok⟩⟩
          · exact iteFe (decide_eq_false c) ⟨_, rfl, _, rfl, G, p, _, tx, rfl, B, tok, by omega, by omega, fun H9 u B9 uok ul => ⟨G, p, _, u, rfl, B9, uok, by omega, by omega, fun H10 w B10 wok _ => ⟨w, rfl, B10.mono (by omega), wok⟩⟩⟩
        rintro σ H9 ⟨u, rfl, B9, uok⟩
        clear B
        have er := law_reads u
        refine ⟨_, rfl, u, rfl, uok, fun e H10 s10 => ?_, fun ms' ps' e H10 q l1' l2' s10 M hn' nd' l1'' l8' ok' => ?_⟩
        · rw [e] at er
          refine ⟨_, rfl, .str u, some (.str u), rfl, .inl (tOk_vd uok), fun t' ms' ps' e1 e2 => ?_, fun _ H11 q s11 hq => ?_⟩
          · injection e1 with e1
            injection e1 with e1
            subst e1
            rw [← er] at e2
            cases e2
          refine ⟨_, rfl, rfl, _, rfl, iteTe (decide_eq_true rfl) ⟨_, rfl, _, rfl, z2, fun t2 ht2 => ?_⟩⟩
          have s12' := same_new (o := .lst [.str "text", .str u]) ht2
          have fin := (B9.keep (s10.trans s11)).keep s12'
          refine .inl ⟨q, t2, [.str "text", .str u], rfl, rfl, SqL.of (s12' _ _ hq), SqL.of upd_same, rfl, _, rfl, iteF ⟨_, rfl, rfl, _, rfl, iteFe (by simp) (iteF ?_)⟩⟩
          exact ⟨_, rfl, rfl, _, rfl, iteFe (by simp) (iteF ⟨_, rfl, rfl, _, rfl, iteFe (by simp) (iteF ⟨_, _, _, _, rfl, fin⟩)⟩)⟩
        · rw [e] at er
          have es := readT_text er.symm
          refine ⟨_, rfl, .str u, some (.str u), rfl, .inl (tOk_vd uok), fun t' ms2 ps2 e1 e2 H11 g y s11 hg sty => ?_, fun z => absurd (z u rfl) (by rw [← er]; exact fun w => nomatch w)⟩
          injection e1 with e1
          injection e1 with e1
          subst e1
          rw [← er] at e2
          injection e2 with e2
          injection e2 with e2 e3
          subst e2 e3
          obtain ⟨dy, ly, dd, kvy, hy, _⟩ := id sty
          refine ⟨_, rfl, rfl, _, rfl, iteFe (by simp) (iteF ⟨_, rfl, rfl, _, rfl, iteTe (by simp) ⟨_, rfl, g, _, 0, .str "read", rfl, rfl, SqL.of hg, atI_nat (j := 0) rfl, rfl, _, rfl, iteFe (by simp) ?_⟩⟩)⟩
          refine ⟨_, rfl, rfl, _, rfl, iteTe (by simp) ⟨_, rfl, g, _, 1, .ref y, rfl, rfl, SqL.of hg, atI_nat (j := 1) rfl, y, dy, _, rfl, hy, y, ms', _, rfl, sty, hn', by omega, fun H12 s12' => ⟨_, rfl, _, rfl, rfl, _, rfl, iteFe ?_ ?_⟩⟩⟩
          · rw [es]
            simp
          have M2 := M.mono (s11.trans s12')
          obtain ⟨hq2, hm1, ys, hm2, dys⟩ := M2
          have j0 : atI [V.ref l1', .ref l2'] 0 = some (.ref l1') := atI_nat (j := 0) rfl
          have j1 : atI [V.ref l1', .ref l2'] 1 = some (.ref l2') := atI_nat (j := 1) rfl
          refine ⟨_, rfl, rfl, _, rfl, iteTe (by simp) ⟨_, rfl, g, _, 1, .ref y, rfl, rfl, SqL.of (s12' _ _ hg), atI_nat (j := 1) rfl, _, rfl, q, _, 0, .ref l1', rfl, rfl, hq2, j0, _, rfl, q, _, 1, .ref l2', rfl, rfl, hq2, j1, fun z dz hz hdz nez => ?_⟩⟩
          refine made_ok (ps := ps') hz hdz nez (.ok hm1 hn' nd' ⟨l1'', l8'⟩) (carg_ok hn' hm2 dys ok') fun H13 s13 st => ⟨rfl, ?_⟩
          exact eqI_str ic (sty.mono (s12'.trans s13)) st.at_ hn' hn' ⟨_, rfl, iteFe (by rw [eqStr_of fun _ _ => rfl]; rfl) ⟨_, _, _, _, rfl, B9.keep (s10.trans (s11.trans (s12'.trans s13)))⟩⟩
      rintro σ H8 ⟨v6, v7, v8, v9, rfl, B⟩
      have B : BoxIn G H8 p 300 := B.mono (by decide)
      obtain ⟨A0, sA⟩ := B.all
      refine ⟨_, rfl, (by show 1 ≤ sizeLine; decide), fun lt hlt => ⟨_, rfl, ?_⟩⟩
      have b1 := A0.new (o := .lst [.str tx]) hlt
      intro dd hdd
      have b2 := b1.1.new (o := .dK []) hdd
      refine ⟨(by show 10 ≤ sizeLine; decide), fun lo hlo => ?_⟩
      have b3 := b2.1.new (o := .lst [.non, .int 5, .bl true, .ref lt, .str "", .str " ", .ref x, .ref dd, .str ": a!a", .str "a a"]) hlo
      refine ⟨_, rfl, _, p, _, 10, rfl, b3.1, by decide, by decide, by decide, fun zo H9 zo0 zo1 B9 => ?_⟩
      obtain ⟨od, hv, hmv⟩ := atI_in (xs := [V.non, .int 5, .bl true, .ref lt, .str "", .str " ", .ref x, .ref dd, .str ": a!a", .str "a a"]) zo0 zo1
      refine ⟨lo, _, zo, od, rfl, rfl, SqL.of (B9.same _ _ upd_same), hv, ?_⟩
      have n3 := b3.2.trans B9.same
      have n2 := b2.2.trans n3
      have n1 := b1.2.trans n2
      have sG9 := sA.trans n1
      obtain ⟨dx9, lx9, dd9, kv9, hx9, _⟩ := SG.mono sG9
      obtain ⟨o1, o2, o3, o4⟩ := odd_none
      have smalls : ∀ t : Str, t.length ≤ 1000 ∧ PyData.strOk t = true → readT t = none → ∃ o, RV K T.C_Strengths H9 (.str t) o ∧ ∀ t', o = some (.str t') → readT t' = none := fun t ht hr => ⟨_, .inl (tOk_vd ht), fun t' e => by
        injection e with e
        injection e with e
        rw [← e]
        exact hr⟩
      obtain ⟨ov, hrv, hnone⟩ : ∃ o, RV K T.C_Strengths H9 od o ∧ ∀ t, o = some (.str t) → readT t = none := by
        simp only [List.mem_cons, List.not_mem_nil, or_false] at hmv
        rcases hmv with rfl | rfl | rfl | rfl | rfl | rfl | rfl | rfl | rfl | rfl
        · exact ⟨some .none, .inl (.dat .non (by decide +kernel) (fun _ e => nomatch e)), fun _ e => nomatch e⟩
        · exact ⟨some (.int 5), .inl (.dat (.int 5) (by decide +kernel) (fun _ e => nomatch e)), fun _ e => nomatch e⟩
        · exact ⟨some (.bool true), .inl (.dat (.bl true) (by decide +kernel) (fun _ e => nomatch e)), fun _ e => nomatch e⟩
        · refine ⟨some (.list [.str tx]), .inl (.dat (.lst (SqL.of (n2 _ _ upd_same)) (.cons (.str _) .nil)) ?_ (fun _ e => nomatch e)), fun _ e => nomatch e⟩
          exact shaped_list (n := 0) (by decide) fun d hd => by
            rw [List.mem_singleton.mp hd]
            exact can_str tok
        · exact smalls _ (by decide +kernel) o1
        · exact smalls _ (by decide +kernel) o2
        · exact ⟨none, .inr ⟨rfl, x, _, _, rfl, hx9⟩, fun _ e => nomatch e⟩
        · exact ⟨none, .inl (.dic (n3 _ _ upd_same)), fun _ e => nomatch e⟩
        · exact smalls _ (by decide +kernel) o3
        · exact smalls _ (by decide +kernel) o4
      refine ⟨_, rfl, od, ov, rfl, hrv, fun t ms ps e1 e2 => absurd (hnone t e1) (by rw [e2]; exact fun w => nomatch w), fun _ H10 q s10 hq => ⟨_, rfl, z2, fun t2 ht2 => ?_⟩⟩
      have s11 := same_new (o := .lst [.str "text", od]) ht2
      exact .inl ⟨q, t2, [.str "text", od], rfl, rfl, SqL.of (s11 _ _ hq), SqL.of upd_same, sure3 hrv.sure, _, rfl, iteF ⟨_, _, _, _, _, _, _, _, _, _, rfl, s12.trans (sG.trans (sG9.trans (s10.trans s11)))⟩⟩
    · rintro σ H1 ⟨v1, v2, v3, v4, v5, v6, v7, v8, v9, v10, rfl, s1⟩
      exact k H1
end
theorem all_mk {l : PySem.W.OpenLaw} {w : World} {K : PySem.W.Frag} {h : Heap} {mg : Str → Option Value} {fa f0 f1 f2 f3 f4 f5 f6 f7 f8 f9 f10 f11 f12 f13 f14 f15 f16 f17 f18 f19 f20 f21 f22 f23 f24 f25 f26 f27 f28 f29 f30 f31 f32 f33 f34 f35 f36 f37 f38 f39 f40 f41 : Addr} {C_PartsError : Addr} {C_InvalidName : Addr} {C_InvalidModes : Addr} {C_InvalidClash : Addr} {C_InvalidStrengths : Addr} {C_InvalidText : Addr} {C_Duplicate : Addr} {C_UnknownMode : Addr} {C_Strengths : Addr} (X : K.In h) (G : h.Ns mainGlobals mg) (hfa : mg "law" = some (.ref fa))
    {od0 an0 : Option Addr} {sl0 : Array (Option Value)} {oc0 kV0 dc0 pm0 cd0 ct0 : Value}
    (a0 : PySem.W.nsIn K mainGlobals "_wall" = some (some (.ref f0))) (l0 : K.lookup f0 = some ⟨oc0, od0, .func (PySem.W.fnOf "_wall" "_wall" (defArgs s_wall) (defBody s_wall) (defScope s_wall) .none kV0 dc0 pm0 an0 cd0 ct0), sl0⟩) (c0 : PySem.W.codeIn K cd0 "_wall" = true) (k0 : PySem.W.keepIn K (.ref f0) = true)
    {od1 an1 : Option Addr} {sl1 : Array (Option Value)} {oc1 kV1 dc1 pm1 cd1 ct1 : Value}
    (a1 : PySem.W.findIn K (.ref C_InvalidName) "__init__" = some (some (.ref f1))) (l1 : K.lookup f1 = some ⟨oc1, od1, .func (PySem.W.fnOf "__init__" "InvalidName.__init__" (defArgs s_InvalidName_init) (defBody s_InvalidName_init) (defScope s_InvalidName_init) .none kV1 dc1 pm1 an1 cd1 ct1), sl1⟩) (c1 : PySem.W.codeIn K cd1 "InvalidName.__init__" = true) (k1 : PySem.W.keepIn K (.ref f1) = true)
    {od2 an2 : Option Addr} {sl2 : Array (Option Value)} {oc2 kV2 dc2 pm2 cd2 ct2 : Value}
    (a2 : PySem.W.findIn K (.ref C_InvalidModes) "__init__" = some (some (.ref f2))) (l2 : K.lookup f2 = some ⟨oc2, od2, .func (PySem.W.fnOf "__init__" "InvalidModes.__init__" (defArgs s_InvalidModes_init) (defBody s_InvalidModes_init) (defScope s_InvalidModes_init) .none kV2 dc2 pm2 an2 cd2 ct2), sl2⟩) (c2 : PySem.W.codeIn K cd2 "InvalidModes.__init__" = true) (k2 : PySem.W.keepIn K (.ref f2) = true)
    {od3 an3 : Option Addr} {sl3 : Array (Option Value)} {oc3 kV3 dc3 pm3 cd3 ct3 : Value}
    (a3 : PySem.W.findIn K (.ref C_InvalidClash) "__init__" = some (some (.ref f3))) (l3 : K.lookup f3 = some ⟨oc3, od3, .func (PySem.W.fnOf "__init__" "InvalidClash.__init__" (defArgs s_InvalidClash_init) (defBody s_InvalidClash_init) (defScope s_InvalidClash_init) .none kV3 dc3 pm3 an3 cd3 ct3), sl3⟩) (c3 : PySem.W.codeIn K cd3 "InvalidClash.__init__" = true) (k3 : PySem.W.keepIn K (.ref f3) = true)
    {od4 an4 : Option Addr} {sl4 : Array (Option Value)} {oc4 kV4 dc4 pm4 cd4 ct4 : Value}
    (a4 : PySem.W.findIn K (.ref C_InvalidStrengths) "__init__" = some (some (.ref f4))) (l4 : K.lookup f4 = some ⟨oc4, od4, .func (PySem.W.fnOf "__init__" "InvalidStrengths.__init__" (defArgs s_InvalidStrengths_init) (defBody s_InvalidStrengths_init) (defScope s_InvalidStrengths_init) .none kV4 dc4 pm4 an4 cd4 ct4), sl4⟩) (c4 : PySem.W.codeIn K cd4 "InvalidStrengths.__init__" = true) (k4 : PySem.W.keepIn K (.ref f4) = true)
    {od5 an5 : Option Addr} {sl5 : Array (Option Value)} {oc5 kV5 dc5 pm5 cd5 ct5 : Value}
    (a5 : PySem.W.findIn K (.ref C_InvalidText) "__init__" = some (some (.ref f5))) (l5 : K.lookup f5 = some ⟨oc5, od5, .func (PySem.W.fnOf "__init__" "InvalidText.__init__" (defArgs s_InvalidText_init) (defBody s_InvalidText_init) (defScope s_InvalidText_init) .none kV5 dc5 pm5 an5 cd5 ct5), sl5⟩) (c5 : PySem.W.codeIn K cd5 "InvalidText.__init__" = true) (k5 : PySem.W.keepIn K (.ref f5) = true)
    {od6 an6 : Option Addr} {sl6 : Array (Option Value)} {oc6 kV6 dc6 pm6 cd6 ct6 : Value}
    (a6 : PySem.W.findIn K (.ref C_Duplicate) "__init__" = some (some (.ref f6))) (l6 : K.lookup f6 = some ⟨oc6, od6, .func (PySem.W.fnOf "__init__" "Duplicate.__init__" (defArgs s_Duplicate_init) (defBody s_Duplicate_init) (defScope s_Duplicate_init) .none kV6 dc6 pm6 an6 cd6 ct6), sl6⟩) (c6 : PySem.W.codeIn K cd6 "Duplicate.__init__" = true) (k6 : PySem.W.keepIn K (.ref f6) = true)
    {od7 an7 : Option Addr} {sl7 : Array (Option Value)} {oc7 kV7 dc7 pm7 cd7 ct7 : Value}
    (a7 : PySem.W.findIn K (.ref C_UnknownMode) "__init__" = some (some (.ref f7))) (l7 : K.lookup f7 = some ⟨oc7, od7, .func (PySem.W.fnOf "__init__" "UnknownMode.__init__" (defArgs s_UnknownMode_init) (defBody s_UnknownMode_init) (defScope s_UnknownMode_init) .none kV7 dc7 pm7 an7 cd7 ct7), sl7⟩) (c7 : PySem.W.codeIn K cd7 "UnknownMode.__init__" = true) (k7 : PySem.W.keepIn K (.ref f7) = true)
    {od8 an8 : Option Addr} {sl8 : Array (Option Value)} {oc8 kV8 dc8 pm8 cd8 ct8 : Value}
    (a8 : PySem.W.nsIn K mainGlobals "is_name" = some (some (.ref f8))) (l8 : K.lookup f8 = some ⟨oc8, od8, .func (PySem.W.fnOf "is_name" "is_name" (defArgs s_is_name) (defBody s_is_name) (defScope s_is_name) .none kV8 dc8 pm8 an8 cd8 ct8), sl8⟩) (c8 : PySem.W.codeIn K cd8 "is_name" = true) (k8 : PySem.W.keepIn K (.ref f8) = true)
    {od9 an9 : Option Addr} {sl9 : Array (Option Value)} {oc9 kV9 dc9 pm9 cd9 ct9 : Value}
    (a9 : PySem.W.nsIn K mainGlobals "require_name" = some (some (.ref f9))) (l9 : K.lookup f9 = some ⟨oc9, od9, .func (PySem.W.fnOf "require_name" "require_name" (defArgs s_require_name) (defBody s_require_name) (defScope s_require_name) .none kV9 dc9 pm9 an9 cd9 ct9), sl9⟩) (c9 : PySem.W.codeIn K cd9 "require_name" = true) (k9 : PySem.W.keepIn K (.ref f9) = true)
    {od10 an10 : Option Addr} {sl10 : Array (Option Value)} {oc10 kV10 dc10 pm10 cd10 ct10 : Value}
    (a10 : PySem.W.findIn K (.ref C_Strengths) "__init__" = some (some (.ref f10))) (l10 : K.lookup f10 = some ⟨oc10, od10, .func (PySem.W.fnOf "__init__" "Strengths.__init__" (defArgs s_Strengths_init) (defBody s_Strengths_init) (defScope s_Strengths_init) .none kV10 dc10 pm10 an10 cd10 ct10), sl10⟩) (c10 : PySem.W.codeIn K cd10 "Strengths.__init__" = true) (k10 : PySem.W.keepIn K (.ref f10) = true)
    {od11 an11 : Option Addr} {sl11 : Array (Option Value)} {oc11 kV11 dc11 pm11 cd11 ct11 : Value}
    (a11 : PySem.W.findIn K (.ref C_Strengths) "modes" = some (some (.ref f11))) (l11 : K.lookup f11 = some ⟨oc11, od11, .func (PySem.W.fnOf "modes" "Strengths.modes" (defArgs s_Strengths_modes) (defBody s_Strengths_modes) (defScope s_Strengths_modes) .none kV11 dc11 pm11 an11 cd11 ct11), sl11⟩) (c11 : PySem.W.codeIn K cd11 "Strengths.modes" = true) (k11 : PySem.W.keepIn K (.ref f11) = true)
    {od12 an12 : Option Addr} {sl12 : Array (Option Value)} {oc12 kV12 dc12 pm12 cd12 ct12 : Value}
    (a12 : PySem.W.findIn K (.ref C_Strengths) "__len__" = some (some (.ref f12))) (l12 : K.lookup f12 = some ⟨oc12, od12, .func (PySem.W.fnOf "__len__" "Strengths.__len__" (defArgs s_Strengths_len) (defBody s_Strengths_len) (defScope s_Strengths_len) .none kV12 dc12 pm12 an12 cd12 ct12), sl12⟩) (c12 : PySem.W.codeIn K cd12 "Strengths.__len__" = true) (k12 : PySem.W.keepIn K (.ref f12) = true)
    {od13 an13 : Option Addr} {sl13 : Array (Option Value)} {oc13 kV13 dc13 pm13 cd13 ct13 : Value}
    (a13 : PySem.W.findIn K (.ref C_Strengths) "clash" = some (some (.ref f13))) (l13 : K.lookup f13 = some ⟨oc13, od13, .func (PySem.W.fnOf "clash" "Strengths.clash" (defArgs s_Strengths_clash) (defBody s_Strengths_clash) (defScope s_Strengths_clash) .none kV13 dc13 pm13 an13 cd13 ct13), sl13⟩) (c13 : PySem.W.codeIn K cd13 "Strengths.clash" = true) (k13 : PySem.W.keepIn K (.ref f13) = true)
    {od14 an14 : Option Addr} {sl14 : Array (Option Value)} {oc14 kV14 dc14 pm14 cd14 ct14 : Value}
    (a14 : PySem.W.findIn K (.ref C_Strengths) "weaker" = some (some (.ref f14))) (l14 : K.lookup f14 = some ⟨oc14, od14, .func (PySem.W.fnOf "weaker" "Strengths.weaker" (defArgs s_Strengths_weaker) (defBody s_Strengths_weaker) (defScope s_Strengths_weaker) .none kV14 dc14 pm14 an14 cd14 ct14), sl14⟩) (c14 : PySem.W.codeIn K cd14 "Strengths.weaker" = true) (k14 : PySem.W.keepIn K (.ref f14) = true)
    {od15 an15 : Option Addr} {sl15 : Array (Option Value)} {oc15 kV15 dc15 pm15 cd15 ct15 : Value}
    (a15 : PySem.W.findIn K (.ref C_Strengths) "clashes" = some (some (.ref f15))) (l15 : K.lookup f15 = some ⟨oc15, od15, .func (PySem.W.fnOf "clashes" "Strengths.clashes" (defArgs s_Strengths_clashes) (defBody s_Strengths_clashes) (defScope s_Strengths_clashes) .none kV15 dc15 pm15 an15 cd15 ct15), sl15⟩) (c15 : PySem.W.codeIn K cd15 "Strengths.clashes" = true) (k15 : PySem.W.keepIn K (.ref f15) = true)
    {od16 an16 : Option Addr} {sl16 : Array (Option Value)} {oc16 kV16 dc16 pm16 cd16 ct16 : Value}
    (a16 : PySem.W.findIn K (.ref C_Strengths) "__eq__" = some (some (.ref f16))) (l16 : K.lookup f16 = some ⟨oc16, od16, .func (PySem.W.fnOf "__eq__" "Strengths.__eq__" (defArgs s_Strengths_eq) (defBody s_Strengths_eq) (defScope s_Strengths_eq) .none kV16 dc16 pm16 an16 cd16 ct16), sl16⟩) (c16 : PySem.W.codeIn K cd16 "Strengths.__eq__" = true) (k16 : PySem.W.keepIn K (.ref f16) = true)
    {od17 an17 : Option Addr} {sl17 : Array (Option Value)} {oc17 kV17 dc17 pm17 cd17 ct17 : Value}
    (a17 : PySem.W.findIn K (.ref C_Strengths) "weakest" = some (some (.ref f17))) (l17 : K.lookup f17 = some ⟨oc17, od17, .func (PySem.W.fnOf "weakest" "Strengths.weakest" (defArgs s_Strengths_weakest) (defBody s_Strengths_weakest) (defScope s_Strengths_weakest) .none kV17 dc17 pm17 an17 cd17 ct17), sl17⟩) (c17 : PySem.W.codeIn K cd17 "Strengths.weakest" = true) (k17 : PySem.W.keepIn K (.ref f17) = true)
    {od18 an18 : Option Addr} {sl18 : Array (Option Value)} {oc18 kV18 dc18 pm18 cd18 ct18 : Value}
    (a18 : PySem.W.findIn K (.ref C_Strengths) "strongest" = some (some (.ref f18))) (l18 : K.lookup f18 = some ⟨oc18, od18, .func (PySem.W.fnOf "strongest" "Strengths.strongest" (defArgs s_Strengths_strongest) (defBody s_Strengths_strongest) (defScope s_Strengths_strongest) .none kV18 dc18 pm18 an18 cd18 ct18), sl18⟩) (c18 : PySem.W.codeIn K cd18 "Strengths.strongest" = true) (k18 : PySem.W.keepIn K (.ref f18) = true)
    {od19 an19 : Option Addr} {sl19 : Array (Option Value)} {oc19 kV19 dc19 pm19 cd19 ct19 : Value}
    (a19 : PySem.W.findIn K (.ref C_Strengths) "steps_down" = some (some (.ref f19))) (l19 : K.lookup f19 = some ⟨oc19, od19, .func (PySem.W.fnOf "steps_down" "Strengths.steps_down" (defArgs s_Strengths_steps_down) (defBody s_Strengths_steps_down) (defScope s_Strengths_steps_down) .none kV19 dc19 pm19 an19 cd19 ct19), sl19⟩) (c19 : PySem.W.codeIn K cd19 "Strengths.steps_down" = true) (k19 : PySem.W.keepIn K (.ref f19) = true)
    {od20 an20 : Option Addr} {sl20 : Array (Option Value)} {oc20 kV20 dc20 pm20 cd20 ct20 : Value}
    (a20 : PySem.W.findIn K (.ref C_Strengths) "__str__" = some (some (.ref f20))) (l20 : K.lookup f20 = some ⟨oc20, od20, .func (PySem.W.fnOf "__str__" "Strengths.__str__" (defArgs s_Strengths_str) (defBody s_Strengths_str) (defScope s_Strengths_str) .none kV20 dc20 pm20 an20 cd20 ct20), sl20⟩) (c20 : PySem.W.codeIn K cd20 "Strengths.__str__" = true) (k20 : PySem.W.keepIn K (.ref f20) = true)
    {od21 an21 : Option Addr} {sl21 : Array (Option Value)} {oc21 kV21 dc21 pm21 cd21 ct21 : Value}
    (a21 : PySem.W.findIn K (.ref C_Strengths) "_require_mode" = some (some (.ref f21))) (l21 : K.lookup f21 = some ⟨oc21, od21, .func (PySem.W.fnOf "_require_mode" "Strengths._require_mode" (defArgs s_Strengths_require_mode) (defBody s_Strengths_require_mode) (defScope s_Strengths_require_mode) .none kV21 dc21 pm21 an21 cd21 ct21), sl21⟩) (c21 : PySem.W.codeIn K cd21 "Strengths._require_mode" = true) (k21 : PySem.W.keepIn K (.ref f21) = true)
    {od22 an22 : Option Addr} {sl22 : Array (Option Value)} {oc22 kV22 dc22 pm22 cd22 ct22 : Value}
    (a22 : PySem.W.findIn K (.ref C_Strengths) "_below" = some (some (.ref f22))) (l22 : K.lookup f22 = some ⟨oc22, od22, .func (PySem.W.fnOf "_below" "Strengths._below" (defArgs s_Strengths_below) (defBody s_Strengths_below) (defScope s_Strengths_below) .none kV22 dc22 pm22 an22 cd22 ct22), sl22⟩) (c22 : PySem.W.codeIn K cd22 "Strengths._below" = true) (k22 : PySem.W.keepIn K (.ref f22) = true)
    {od23 an23 : Option Addr} {sl23 : Array (Option Value)} {oc23 kV23 dc23 pm23 cd23 ct23 : Value}
    (a23 : PySem.W.nsIn K mainGlobals "require_modes" = some (some (.ref f23))) (l23 : K.lookup f23 = some ⟨oc23, od23, .func (PySem.W.fnOf "require_modes" "require_modes" (defArgs s_require_modes) (defBody s_require_modes) (defScope s_require_modes) .none kV23 dc23 pm23 an23 cd23 ct23), sl23⟩) (c23 : PySem.W.codeIn K cd23 "require_modes" = true) (k23 : PySem.W.keepIn K (.ref f23) = true)
    {od24 an24 : Option Addr} {sl24 : Array (Option Value)} {oc24 kV24 dc24 pm24 cd24 ct24 : Value}
    (a24 : PySem.W.nsIn K mainGlobals "require_clashes" = some (some (.ref f24))) (l24 : K.lookup f24 = some ⟨oc24, od24, .func (PySem.W.fnOf "require_clashes" "require_clashes" (defArgs s_require_clashes) (defBody s_require_clashes) (defScope s_require_clashes) .none kV24 dc24 pm24 an24 cd24 ct24), sl24⟩) (c24 : PySem.W.codeIn K cd24 "require_clashes" = true) (k24 : PySem.W.keepIn K (.ref f24) = true)
    {od25 an25 : Option Addr} {sl25 : Array (Option Value)} {oc25 kV25 dc25 pm25 cd25 ct25 : Value}
    (a25 : PySem.W.nsIn K mainGlobals "clashing_modes" = some (some (.ref f25))) (l25 : K.lookup f25 = some ⟨oc25, od25, .func (PySem.W.fnOf "clashing_modes" "clashing_modes" (defArgs s_clashing_modes) (defBody s_clashing_modes) (defScope s_clashing_modes) .none kV25 dc25 pm25 an25 cd25 ct25), sl25⟩) (c25 : PySem.W.codeIn K cd25 "clashing_modes" = true) (k25 : PySem.W.keepIn K (.ref f25) = true)
    {od26 an26 : Option Addr} {sl26 : Array (Option Value)} {oc26 kV26 dc26 pm26 cd26 ct26 : Value}
    (a26 : PySem.W.nsIn K mainGlobals "read_strengths" = some (some (.ref f26))) (l26 : K.lookup f26 = some ⟨oc26, od26, .func (PySem.W.fnOf "read_strengths" "read_strengths" (defArgs s_read_strengths) (defBody s_read_strengths) (defScope s_read_strengths) .none kV26 dc26 pm26 an26 cd26 ct26), sl26⟩) (c26 : PySem.W.codeIn K cd26 "read_strengths" = true) (k26 : PySem.W.keepIn K (.ref f26) = true)
    {od27 an27 : Option Addr} {sl27 : Array (Option Value)} {oc27 kV27 dc27 pm27 cd27 ct27 : Value}
    (a27 : PySem.W.nsIn K mainGlobals "parsed_strengths" = some (some (.ref f27))) (l27 : K.lookup f27 = some ⟨oc27, od27, .func (PySem.W.fnOf "parsed_strengths" "parsed_strengths" (defArgs s_parsed_strengths) (defBody s_parsed_strengths) (defScope s_parsed_strengths) .none kV27 dc27 pm27 an27 cd27 ct27), sl27⟩) (c27 : PySem.W.codeIn K cd27 "parsed_strengths" = true) (k27 : PySem.W.keepIn K (.ref f27) = true)
    {od28 an28 : Option Addr} {sl28 : Array (Option Value)} {oc28 kV28 dc28 pm28 cd28 ct28 : Value}
    (a28 : PySem.W.nsIn K mainGlobals "_law_cell" = some (some (.ref f28))) (l28 : K.lookup f28 = some ⟨oc28, od28, .func (PySem.W.fnOf "_law_cell" "_law_cell" (defArgs s_law_cell) (defBody s_law_cell) (defScope s_law_cell) .none kV28 dc28 pm28 an28 cd28 ct28), sl28⟩) (c28 : PySem.W.codeIn K cd28 "_law_cell" = true) (k28 : PySem.W.keepIn K (.ref f28) = true)
    {od29 an29 : Option Addr} {sl29 : Array (Option Value)} {oc29 kV29 dc29 pm29 cd29 ct29 : Value}
    (a29 : PySem.W.nsIn K mainGlobals "_law_box" = some (some (.ref f29))) (l29 : K.lookup f29 = some ⟨oc29, od29, .func (PySem.W.fnOf "_law_box" "_law_box" (defArgs s_law_box) (defBody s_law_box) (defScope s_law_box) .none kV29 dc29 pm29 an29 cd29 ct29), sl29⟩) (c29 : PySem.W.codeIn K cd29 "_law_box" = true) (k29 : PySem.W.keepIn K (.ref f29) = true)
    {od30 an30 : Option Addr} {sl30 : Array (Option Value)} {oc30 kV30 dc30 pm30 cd30 ct30 : Value}
    (a30 : PySem.W.nsIn K mainGlobals "_law_take" = some (some (.ref f30))) (l30 : K.lookup f30 = some ⟨oc30, od30, .func (PySem.W.fnOf "_law_take" "_law_take" (defArgs s_law_take) (defBody s_law_take) (defScope s_law_take) .none kV30 dc30 pm30 an30 cd30 ct30), sl30⟩) (c30 : PySem.W.codeIn K cd30 "_law_take" = true) (k30 : PySem.W.keepIn K (.ref f30) = true)
    {od31 an31 : Option Addr} {sl31 : Array (Option Value)} {oc31 kV31 dc31 pm31 cd31 ct31 : Value}
    (a31 : PySem.W.nsIn K mainGlobals "_law_mixed" = some (some (.ref f31))) (l31 : K.lookup f31 = some ⟨oc31, od31, .func (PySem.W.fnOf "_law_mixed" "_law_mixed" (defArgs s_law_mixed) (defBody s_law_mixed) (defScope s_law_mixed) .none kV31 dc31 pm31 an31 cd31 ct31), sl31⟩) (c31 : PySem.W.codeIn K cd31 "_law_mixed" = true) (k31 : PySem.W.keepIn K (.ref f31) = true)
    {od32 an32 : Option Addr} {sl32 : Array (Option Value)} {oc32 kV32 dc32 pm32 cd32 ct32 : Value}
    (a32 : PySem.W.nsIn K mainGlobals "_law_names" = some (some (.ref f32))) (l32 : K.lookup f32 = some ⟨oc32, od32, .func (PySem.W.fnOf "_law_names" "_law_names" (defArgs s_law_names) (defBody s_law_names) (defScope s_law_names) .none kV32 dc32 pm32 an32 cd32 ct32), sl32⟩) (c32 : PySem.W.codeIn K cd32 "_law_names" = true) (k32 : PySem.W.keepIn K (.ref f32) = true)
    {od33 an33 : Option Addr} {sl33 : Array (Option Value)} {oc33 kV33 dc33 pm33 cd33 ct33 : Value}
    (a33 : PySem.W.nsIn K mainGlobals "_law_modes" = some (some (.ref f33))) (l33 : K.lookup f33 = some ⟨oc33, od33, .func (PySem.W.fnOf "_law_modes" "_law_modes" (defArgs s_law_modes) (defBody s_law_modes) (defScope s_law_modes) .none kV33 dc33 pm33 an33 cd33 ct33), sl33⟩) (c33 : PySem.W.codeIn K cd33 "_law_modes" = true) (k33 : PySem.W.keepIn K (.ref f33) = true)
    {od34 an34 : Option Addr} {sl34 : Array (Option Value)} {oc34 kV34 dc34 pm34 cd34 ct34 : Value}
    (a34 : PySem.W.nsIn K mainGlobals "_law_against" = some (some (.ref f34))) (l34 : K.lookup f34 = some ⟨oc34, od34, .func (PySem.W.fnOf "_law_against" "_law_against" (defArgs s_law_against) (defBody s_law_against) (defScope s_law_against) .none kV34 dc34 pm34 an34 cd34 ct34), sl34⟩) (c34 : PySem.W.codeIn K cd34 "_law_against" = true) (k34 : PySem.W.keepIn K (.ref f34) = true)
    {od35 an35 : Option Addr} {sl35 : Array (Option Value)} {oc35 kV35 dc35 pm35 cd35 ct35 : Value}
    (a35 : PySem.W.nsIn K mainGlobals "_law_pairs" = some (some (.ref f35))) (l35 : K.lookup f35 = some ⟨oc35, od35, .func (PySem.W.fnOf "_law_pairs" "_law_pairs" (defArgs s_law_pairs) (defBody s_law_pairs) (defScope s_law_pairs) .none kV35 dc35 pm35 an35 cd35 ct35), sl35⟩) (c35 : PySem.W.codeIn K cd35 "_law_pairs" = true) (k35 : PySem.W.keepIn K (.ref f35) = true)
    {od36 an36 : Option Addr} {sl36 : Array (Option Value)} {oc36 kV36 dc36 pm36 cd36 ct36 : Value}
    (a36 : PySem.W.nsIn K mainGlobals "_law_text" = some (some (.ref f36))) (l36 : K.lookup f36 = some ⟨oc36, od36, .func (PySem.W.fnOf "_law_text" "_law_text" (defArgs s_law_text) (defBody s_law_text) (defScope s_law_text) .none kV36 dc36 pm36 an36 cd36 ct36), sl36⟩) (c36 : PySem.W.codeIn K cd36 "_law_text" = true) (k36 : PySem.W.keepIn K (.ref f36) = true)
    {od37 an37 : Option Addr} {sl37 : Array (Option Value)} {oc37 kV37 dc37 pm37 cd37 ct37 : Value}
    (a37 : PySem.W.nsIn K mainGlobals "_law_is_name" = some (some (.ref f37))) (l37 : K.lookup f37 = some ⟨oc37, od37, .func (PySem.W.fnOf "_law_is_name" "_law_is_name" (defArgs s_law_is_name) (defBody s_law_is_name) (defScope s_law_is_name) .none kV37 dc37 pm37 an37 cd37 ct37), sl37⟩) (c37 : PySem.W.codeIn K cd37 "_law_is_name" = true) (k37 : PySem.W.keepIn K (.ref f37) = true)
    {od38 an38 : Option Addr} {sl38 : Array (Option Value)} {oc38 kV38 dc38 pm38 cd38 ct38 : Value}
    (a38 : PySem.W.nsIn K mainGlobals "_law_read" = some (some (.ref f38))) (l38 : K.lookup f38 = some ⟨oc38, od38, .func (PySem.W.fnOf "_law_read" "_law_read" (defArgs s_law_read) (defBody s_law_read) (defScope s_law_read) .none kV38 dc38 pm38 an38 cd38 ct38), sl38⟩) (c38 : PySem.W.codeIn K cd38 "_law_read" = true) (k38 : PySem.W.keepIn K (.ref f38) = true)
    {od39 an39 : Option Addr} {sl39 : Array (Option Value)} {oc39 kV39 dc39 pm39 cd39 ct39 : Value}
    (a39 : PySem.W.nsIn K mainGlobals "_law_told" = some (some (.ref f39))) (l39 : K.lookup f39 = some ⟨oc39, od39, .func (PySem.W.fnOf "_law_told" "_law_told" (defArgs s_law_told) (defBody s_law_told) (defScope s_law_told) .none kV39 dc39 pm39 an39 cd39 ct39), sl39⟩) (c39 : PySem.W.codeIn K cd39 "_law_told" = true) (k39 : PySem.W.keepIn K (.ref f39) = true)
    {od40 an40 : Option Addr} {sl40 : Array (Option Value)} {oc40 kV40 dc40 pm40 cd40 ct40 : Value}
    (a40 : PySem.W.nsIn K mainGlobals "_law_bent" = some (some (.ref f40))) (l40 : K.lookup f40 = some ⟨oc40, od40, .func (PySem.W.fnOf "_law_bent" "_law_bent" (defArgs s_law_bent) (defBody s_law_bent) (defScope s_law_bent) .none kV40 dc40 pm40 an40 cd40 ct40), sl40⟩) (c40 : PySem.W.codeIn K cd40 "_law_bent" = true) (k40 : PySem.W.keepIn K (.ref f40) = true)
    {od41 an41 : Option Addr} {sl41 : Array (Option Value)} {oc41 kV41 dc41 pm41 cd41 ct41 : Value}
    (a41 : PySem.W.nsIn K mainGlobals "law" = some (some (.ref f41))) (l41 : K.lookup f41 = some ⟨oc41, od41, .func (PySem.W.fnOf "law" "law" (defArgs s_law) (defBody s_law) (defScope s_law) .none kV41 dc41 pm41 an41 cd41 ct41), sl41⟩) (c41 : PySem.W.codeIn K cd41 "law" = true) (k41 : PySem.W.keepIn K (.ref f41) = true)
    (g_PartsError : PySem.W.nsIn K mainGlobals "PartsError" = some (some (.ref C_PartsError)))
    (g_InvalidName : PySem.W.nsIn K mainGlobals "InvalidName" = some (some (.ref C_InvalidName)))
    {nm_InvalidName qn_InvalidName : Str} {N_InvalidName : Addr} {bs_InvalidName bm_InvalidName : List Value} {sn_InvalidName : List Str} {sub_InvalidName : List Value} {ab_InvalidName : Bool} {col_InvalidName : Option Bool} {dd_InvalidName : Option Addr} {m0_InvalidName m1_InvalidName m2_InvalidName m3_InvalidName m5_InvalidName : Option Value}
    (xL_InvalidName : K.lookup C_InvalidName = some (excClassObj nm_InvalidName qn_InvalidName C_InvalidName N_InvalidName bs_InvalidName bm_InvalidName true sn_InvalidName sub_InvalidName ab_InvalidName col_InvalidName dd_InvalidName m0_InvalidName m1_InvalidName m2_InvalidName m3_InvalidName m5_InvalidName "ValueError.__new__")) (rB_InvalidName : PySem.HandSPX.refsVE bm_InvalidName = true)
    (sa_InvalidName : PySem.W.findIn K (.ref C_InvalidName) "__setattr__" = some (some (.builtin "object.__setattr__"))) (ga_InvalidName : PySem.W.findIn K (.ref C_InvalidName) "__getattribute__" = some (some (.builtin "BaseException.__getattribute__"))) (gg_InvalidName : PySem.W.findIn K (.ref C_InvalidName) "__getattr__" = some none) (nb_InvalidName : PySem.W.findIn K (.ref C_InvalidName) "value" = some none)
    (t1_InvalidName : PySem.W.typeIn K (.ref f1) = some (.type "function")) (kC_InvalidName : PySem.W.keepIn K (.ref C_InvalidName) = true) (eC_InvalidName : PySem.W.subIn K (.ref C_InvalidName) (.type "BaseException") = some true) (tC_InvalidName : PySem.W.typeIn K (.ref C_InvalidName) = some (.type "type")) (hC_InvalidName : PySem.W.hasDictIn K C_InvalidName = true)
    (g_InvalidModes : PySem.W.nsIn K mainGlobals "InvalidModes" = some (some (.ref C_InvalidModes)))
    {nm_InvalidModes qn_InvalidModes : Str} {N_InvalidModes : Addr} {bs_InvalidModes bm_InvalidModes : List Value} {sn_InvalidModes : List Str} {sub_InvalidModes : List Value} {ab_InvalidModes : Bool} {col_InvalidModes : Option Bool} {dd_InvalidModes : Option Addr} {m0_InvalidModes m1_InvalidModes m2_InvalidModes m3_InvalidModes m5_InvalidModes : Option Value}
    (xL_InvalidModes : K.lookup C_InvalidModes = some (excClassObj nm_InvalidModes qn_InvalidModes C_InvalidModes N_InvalidModes bs_InvalidModes bm_InvalidModes true sn_InvalidModes sub_InvalidModes ab_InvalidModes col_InvalidModes dd_InvalidModes m0_InvalidModes m1_InvalidModes m2_InvalidModes m3_InvalidModes m5_InvalidModes "ValueError.__new__")) (rB_InvalidModes : PySem.HandSPX.refsVE bm_InvalidModes = true)
    (sa_InvalidModes : PySem.W.findIn K (.ref C_InvalidModes) "__setattr__" = some (some (.builtin "object.__setattr__"))) (ga_InvalidModes : PySem.W.findIn K (.ref C_InvalidModes) "__getattribute__" = some (some (.builtin "BaseException.__getattribute__"))) (gg_InvalidModes : PySem.W.findIn K (.ref C_InvalidModes) "__getattr__" = some none) (nb_InvalidModes : PySem.W.findIn K (.ref C_InvalidModes) "value" = some none)
    (t1_InvalidModes : PySem.W.typeIn K (.ref f2) = some (.type "function")) (kC_InvalidModes : PySem.W.keepIn K (.ref C_InvalidModes) = true) (eC_InvalidModes : PySem.W.subIn K (.ref C_InvalidModes) (.type "BaseException") = some true) (tC_InvalidModes : PySem.W.typeIn K (.ref C_InvalidModes) = some (.type "type")) (hC_InvalidModes : PySem.W.hasDictIn K C_InvalidModes = true)
    (g_InvalidClash : PySem.W.nsIn K mainGlobals "InvalidClash" = some (some (.ref C_InvalidClash)))
    {nm_InvalidClash qn_InvalidClash : Str} {N_InvalidClash : Addr} {bs_InvalidClash bm_InvalidClash : List Value} {sn_InvalidClash : List Str} {sub_InvalidClash : List Value} {ab_InvalidClash : Bool} {col_InvalidClash : Option Bool} {dd_InvalidClash : Option Addr} {m0_InvalidClash m1_InvalidClash m2_InvalidClash m3_InvalidClash m5_InvalidClash : Option Value}
    (xL_InvalidClash : K.lookup C_InvalidClash = some (excClassObj nm_InvalidClash qn_InvalidClash C_InvalidClash N_InvalidClash bs_InvalidClash bm_InvalidClash true sn_InvalidClash sub_InvalidClash ab_InvalidClash col_InvalidClash dd_InvalidClash m0_InvalidClash m1_InvalidClash m2_InvalidClash m3_InvalidClash m5_InvalidClash "ValueError.__new__")) (rB_InvalidClash : PySem.HandSPX.refsVE bm_InvalidClash = true)
    (sa_InvalidClash : PySem.W.findIn K (.ref C_InvalidClash) "__setattr__" = some (some (.builtin "object.__setattr__"))) (ga_InvalidClash : PySem.W.findIn K (.ref C_InvalidClash) "__getattribute__" = some (some (.builtin "BaseException.__getattribute__"))) (gg_InvalidClash : PySem.W.findIn K (.ref C_InvalidClash) "__getattr__" = some none) (nb_InvalidClash : PySem.W.findIn K (.ref C_InvalidClash) "value" = some none)
    (t1_InvalidClash : PySem.W.typeIn K (.ref f3) = some (.type "function")) (kC_InvalidClash : PySem.W.keepIn K (.ref C_InvalidClash) = true) (eC_InvalidClash : PySem.W.subIn K (.ref C_InvalidClash) (.type "BaseException") = some true) (tC_InvalidClash : PySem.W.typeIn K (.ref C_InvalidClash) = some (.type "type")) (hC_InvalidClash : PySem.W.hasDictIn K C_InvalidClash = true)
    (g_InvalidStrengths : PySem.W.nsIn K mainGlobals "InvalidStrengths" = some (some (.ref C_InvalidStrengths)))
    {nm_InvalidStrengths qn_InvalidStrengths : Str} {N_InvalidStrengths : Addr} {bs_InvalidStrengths bm_InvalidStrengths : List Value} {sn_InvalidStrengths : List Str} {sub_InvalidStrengths : List Value} {ab_InvalidStrengths : Bool} {col_InvalidStrengths : Option Bool} {dd_InvalidStrengths : Option Addr} {m0_InvalidStrengths m1_InvalidStrengths m2_InvalidStrengths m3_InvalidStrengths m5_InvalidStrengths : Option Value}
    (xL_InvalidStrengths : K.lookup C_InvalidStrengths = some (excClassObj nm_InvalidStrengths qn_InvalidStrengths C_InvalidStrengths N_InvalidStrengths bs_InvalidStrengths bm_InvalidStrengths true sn_InvalidStrengths sub_InvalidStrengths ab_InvalidStrengths col_InvalidStrengths dd_InvalidStrengths m0_InvalidStrengths m1_InvalidStrengths m2_InvalidStrengths m3_InvalidStrengths m5_InvalidStrengths "ValueError.__new__")) (rB_InvalidStrengths : PySem.HandSPX.refsVE bm_InvalidStrengths = true)
    (sa_InvalidStrengths : PySem.W.findIn K (.ref C_InvalidStrengths) "__setattr__" = some (some (.builtin "object.__setattr__"))) (ga_InvalidStrengths : PySem.W.findIn K (.ref C_InvalidStrengths) "__getattribute__" = some (some (.builtin "BaseException.__getattribute__"))) (gg_InvalidStrengths : PySem.W.findIn K (.ref C_InvalidStrengths) "__getattr__" = some none) (nb_InvalidStrengths : PySem.W.findIn K (.ref C_InvalidStrengths) "value" = some none)
    (t1_InvalidStrengths : PySem.W.typeIn K (.ref f4) = some (.type "function")) (kC_InvalidStrengths : PySem.W.keepIn K (.ref C_InvalidStrengths) = true) (eC_InvalidStrengths : PySem.W.subIn K (.ref C_InvalidStrengths) (.type "BaseException") = some true) (tC_InvalidStrengths : PySem.W.typeIn K (.ref C_InvalidStrengths) = some (.type "type")) (hC_InvalidStrengths : PySem.W.hasDictIn K C_InvalidStrengths = true)
    (g_InvalidText : PySem.W.nsIn K mainGlobals "InvalidText" = some (some (.ref C_InvalidText)))
    {nm_InvalidText qn_InvalidText : Str} {N_InvalidText : Addr} {bs_InvalidText bm_InvalidText : List Value} {sn_InvalidText : List Str} {sub_InvalidText : List Value} {ab_InvalidText : Bool} {col_InvalidText : Option Bool} {dd_InvalidText : Option Addr} {m0_InvalidText m1_InvalidText m2_InvalidText m3_InvalidText m5_InvalidText : Option Value}
    (xL_InvalidText : K.lookup C_InvalidText = some (excClassObj nm_InvalidText qn_InvalidText C_InvalidText N_InvalidText bs_InvalidText bm_InvalidText true sn_InvalidText sub_InvalidText ab_InvalidText col_InvalidText dd_InvalidText m0_InvalidText m1_InvalidText m2_InvalidText m3_InvalidText m5_InvalidText "ValueError.__new__")) (rB_InvalidText : PySem.HandSPX.refsVE bm_InvalidText = true)
    (sa_InvalidText : PySem.W.findIn K (.ref C_InvalidText) "__setattr__" = some (some (.builtin "object.__setattr__"))) (ga_InvalidText : PySem.W.findIn K (.ref C_InvalidText) "__getattribute__" = some (some (.builtin "BaseException.__getattribute__"))) (gg_InvalidText : PySem.W.findIn K (.ref C_InvalidText) "__getattr__" = some none) (nb_InvalidText : PySem.W.findIn K (.ref C_InvalidText) "value" = some none)
    (t1_InvalidText : PySem.W.typeIn K (.ref f5) = some (.type "function")) (kC_InvalidText : PySem.W.keepIn K (.ref C_InvalidText) = true) (eC_InvalidText : PySem.W.subIn K (.ref C_InvalidText) (.type "BaseException") = some true) (tC_InvalidText : PySem.W.typeIn K (.ref C_InvalidText) = some (.type "type")) (hC_InvalidText : PySem.W.hasDictIn K C_InvalidText = true)
    (g_Duplicate : PySem.W.nsIn K mainGlobals "Duplicate" = some (some (.ref C_Duplicate)))
    {nm_Duplicate qn_Duplicate : Str} {N_Duplicate : Addr} {bs_Duplicate bm_Duplicate : List Value} {sn_Duplicate : List Str} {sub_Duplicate : List Value} {ab_Duplicate : Bool} {col_Duplicate : Option Bool} {dd_Duplicate : Option Addr} {m0_Duplicate m1_Duplicate m2_Duplicate m3_Duplicate m5_Duplicate : Option Value}
    (xL_Duplicate : K.lookup C_Duplicate = some (excClassObj nm_Duplicate qn_Duplicate C_Duplicate N_Duplicate bs_Duplicate bm_Duplicate true sn_Duplicate sub_Duplicate ab_Duplicate col_Duplicate dd_Duplicate m0_Duplicate m1_Duplicate m2_Duplicate m3_Duplicate m5_Duplicate "ValueError.__new__")) (rB_Duplicate : PySem.HandSPX.refsVE bm_Duplicate = true)
    (sa_Duplicate : PySem.W.findIn K (.ref C_Duplicate) "__setattr__" = some (some (.builtin "object.__setattr__"))) (ga_Duplicate : PySem.W.findIn K (.ref C_Duplicate) "__getattribute__" = some (some (.builtin "BaseException.__getattribute__"))) (gg_Duplicate : PySem.W.findIn K (.ref C_Duplicate) "__getattr__" = some none) (nb_Duplicate : PySem.W.findIn K (.ref C_Duplicate) "name" = some none)
    (t1_Duplicate : PySem.W.typeIn K (.ref f6) = some (.type "function")) (kC_Duplicate : PySem.W.keepIn K (.ref C_Duplicate) = true) (eC_Duplicate : PySem.W.subIn K (.ref C_Duplicate) (.type "BaseException") = some true) (tC_Duplicate : PySem.W.typeIn K (.ref C_Duplicate) = some (.type "type")) (hC_Duplicate : PySem.W.hasDictIn K C_Duplicate = true)
    (g_UnknownMode : PySem.W.nsIn K mainGlobals "UnknownMode" = some (some (.ref C_UnknownMode)))
    {nm_UnknownMode qn_UnknownMode : Str} {N_UnknownMode : Addr} {bs_UnknownMode bm_UnknownMode : List Value} {sn_UnknownMode : List Str} {sub_UnknownMode : List Value} {ab_UnknownMode : Bool} {col_UnknownMode : Option Bool} {dd_UnknownMode : Option Addr} {m0_UnknownMode m1_UnknownMode m2_UnknownMode m3_UnknownMode m5_UnknownMode : Option Value}
    (xL_UnknownMode : K.lookup C_UnknownMode = some (excClassObj nm_UnknownMode qn_UnknownMode C_UnknownMode N_UnknownMode bs_UnknownMode bm_UnknownMode true sn_UnknownMode sub_UnknownMode ab_UnknownMode col_UnknownMode dd_UnknownMode m0_UnknownMode m1_UnknownMode m2_UnknownMode m3_UnknownMode m5_UnknownMode "ValueError.__new__")) (rB_UnknownMode : PySem.HandSPX.refsVE bm_UnknownMode = true)
    (sa_UnknownMode : PySem.W.findIn K (.ref C_UnknownMode) "__setattr__" = some (some (.builtin "object.__setattr__"))) (ga_UnknownMode : PySem.W.findIn K (.ref C_UnknownMode) "__getattribute__" = some (some (.builtin "BaseException.__getattribute__"))) (gg_UnknownMode : PySem.W.findIn K (.ref C_UnknownMode) "__getattr__" = some none) (nb_UnknownMode : PySem.W.findIn K (.ref C_UnknownMode) "name" = some none)
    (t1_UnknownMode : PySem.W.typeIn K (.ref f7) = some (.type "function")) (kC_UnknownMode : PySem.W.keepIn K (.ref C_UnknownMode) = true) (eC_UnknownMode : PySem.W.subIn K (.ref C_UnknownMode) (.type "BaseException") = some true) (tC_UnknownMode : PySem.W.typeIn K (.ref C_UnknownMode) = some (.type "type")) (hC_UnknownMode : PySem.W.hasDictIn K C_UnknownMode = true)
    (g_Strengths : PySem.W.nsIn K mainGlobals "Strengths" = some (some (.ref C_Strengths)))
    (pg_Strengths : PySem.W.plainGet K C_Strengths Str.empty = true) (hd_Strengths : PySem.W.hasDictIn K C_Strengths = true) (po_Strengths : PySem.W.plainOver K C_Strengths = true) (st_Strengths : PySem.W.findIn K (.ref C_Strengths) "__setattr__" = some (some (.builtin "object.__setattr__")))
    (mm_Strengths : PySem.W.makesIn K C_Strengths = true) (kc_Strengths : PySem.W.keepIn K (.ref C_Strengths) = true) (ha_Strengths : PySem.W.findIn K (.ref C_Strengths) "__class__" = some (some (.builtin "object.__class__"))) (hn_Strengths : PySem.W.specialIn K (.builtin "object.__class__") "__get__" = some (some (.builtin "getset_descriptor.__get__")))
    (ht_Strengths : PySem.W.takesIn K (.builtin "object.__class__") = some true) (hm_Strengths : PySem.W.mroIn K C_Strengths (.type "object") = some true) (kt_Strengths : PySem.W.kitOne K (.ref C_Strengths) (.ref C_Strengths) = some true)
    (i10 : PySem.W.isFn K (.ref f10) = true)
    (i11 : PySem.W.isFn K (.ref f11) = true)
    (i12 : PySem.W.isFn K (.ref f12) = true)
    (i13 : PySem.W.isFn K (.ref f13) = true)
    (i14 : PySem.W.isFn K (.ref f14) = true)
    (i15 : PySem.W.isFn K (.ref f15) = true)
    (i16 : PySem.W.isFn K (.ref f16) = true)
    (i17 : PySem.W.isFn K (.ref f17) = true)
    (i18 : PySem.W.isFn K (.ref f18) = true)
    (i19 : PySem.W.isFn K (.ref f19) = true)
    (i20 : PySem.W.isFn K (.ref f20) = true)
    (i21 : PySem.W.isFn K (.ref f21) = true)
    (i22 : PySem.W.isFn K (.ref f22) = true)
    (no_Strengths_modes : PySem.W.findIn K (.ref C_Strengths) "_modes" = some none)
    (no_Strengths_against : PySem.W.findIn K (.ref C_Strengths) "_against" = some none)
    (io_Strengths_list : PySem.W.kitOne K (.type "list") (.ref C_Strengths) = some false) (nf_Strengths_list : PySem.W.notFirst K C_Strengths (.type "list") = true)
    (io_Strengths_str : PySem.W.kitOne K (.type "str") (.ref C_Strengths) = some false) (nf_Strengths_str : PySem.W.notFirst K C_Strengths (.type "str") = true)
    (io_own_Strengths_str : PySem.W.kitOne K (.ref C_Strengths) (.type "str") = some false)
    (e_InvalidModes_PartsError : PySem.W.exmOne K (.ref C_InvalidModes) (.ref C_PartsError) = some true)
    (e_InvalidName_PartsError : PySem.W.exmOne K (.ref C_InvalidName) (.ref C_PartsError) = some true)
    (e_Duplicate_PartsError : PySem.W.exmOne K (.ref C_Duplicate) (.ref C_PartsError) = some true)
    (e_InvalidStrengths_PartsError : PySem.W.exmOne K (.ref C_InvalidStrengths) (.ref C_PartsError) = some true)
    (e_InvalidClash_PartsError : PySem.W.exmOne K (.ref C_InvalidClash) (.ref C_PartsError) = some true)
    (e_UnknownMode_PartsError : PySem.W.exmOne K (.ref C_UnknownMode) (.ref C_PartsError) = some true)
    (e_InvalidText_InvalidText : PySem.W.exmOne K (.ref C_InvalidText) (.ref C_InvalidText) = some true)
    {t_LONGEST_NAME : Tok} (v_LONGEST_NAME : PySem.W.nsIn K mainGlobals "LONGEST_NAME" = some (some (.int 8 t_LONGEST_NAME)))
    {t_MOST_MODES : Tok} (v_MOST_MODES : PySem.W.nsIn K mainGlobals "MOST_MODES" = some (some (.int 8 t_MOST_MODES)))
    (z_all : PySem.W.nsIn K mainGlobals "all" = some none)
    (z_isinstance : PySem.W.nsIn K mainGlobals "isinstance" = some none)
    (z_str : PySem.W.nsIn K mainGlobals "str" = some none)
    (z_len : PySem.W.nsIn K mainGlobals "len" = some none)
    (z_list : PySem.W.nsIn K mainGlobals "list" = some none)
    (z_enumerate : PySem.W.nsIn K mainGlobals "enumerate" = some none)
    (z_tuple : PySem.W.nsIn K mainGlobals "tuple" = some none)
    (z_max : PySem.W.nsIn K mainGlobals "max" = some none)
    (z_range : PySem.W.nsIn K mainGlobals "range" = some none)
    (z_min : PySem.W.nsIn K mainGlobals "min" = some none)
    : ∃ fd : FuncData, (∀ (s : Shared) (v : Value), BindsTo s fd ⟨[v], []⟩ [("_law_script", v)]) ∧ ∀ base : Heap, K.In base → base.Ns mainGlobals mg → FnOk l.prog w K mg base CX0 10 fa fd ["_law_script"] (sp_law K) := by
  have e := hfa.symm.trans (PySem.W.mg_of X G a41)
  cases e
  let T : Txt K mg := {
    f_wall := f0, fd_wall := _, F_wall := fun_mk (st := s_wall) l0 c0 k0, b_wall := (fun_mk (st := s_wall) l0 c0 k0).binds (ps := ["k"]) fun _ _ _ _ _ _ us hl => match us, hl with | [_], _ => rfl, m_wall := PySem.W.mg_of X G a0,
    f_InvalidName_init := f1, fd_InvalidName_init := _, F_InvalidName_init := fun_mk (st := s_InvalidName_init) l1 c1 k1, b_InvalidName_init := (fun_mk (st := s_InvalidName_init) l1 c1 k1).binds (ps := ["self", "value"]) fun _ _ _ _ _ _ us hl => match us, hl with | [_, _], _ => rfl,
    f_InvalidModes_init := f2, fd_InvalidModes_init := _, F_InvalidModes_init := fun_mk (st := s_InvalidModes_init) l2 c2 k2, b_InvalidModes_init := (fun_mk (st := s_InvalidModes_init) l2 c2 k2).binds (ps := ["self", "value"]) fun _ _ _ _ _ _ us hl => match us, hl with | [_, _], _ => rfl,
    f_InvalidClash_init := f3, fd_InvalidClash_init := _, F_InvalidClash_init := fun_mk (st := s_InvalidClash_init) l3 c3 k3, b_InvalidClash_init := (fun_mk (st := s_InvalidClash_init) l3 c3 k3).binds (ps := ["self", "value"]) fun _ _ _ _ _ _ us hl => match us, hl with | [_, _], _ => rfl,
    f_InvalidStrengths_init := f4, fd_InvalidStrengths_init := _, F_InvalidStrengths_init := fun_mk (st := s_InvalidStrengths_init) l4 c4 k4, b_InvalidStrengths_init := (fun_mk (st := s_InvalidStrengths_init) l4 c4 k4).binds (ps := ["self", "value"]) fun _ _ _ _ _ _ us hl => match us, hl with | [_, _], _ => rfl,
    f_InvalidText_init := f5, fd_InvalidText_init := _, F_InvalidText_init := fun_mk (st := s_InvalidText_init) l5 c5 k5, b_InvalidText_init := (fun_mk (st := s_InvalidText_init) l5 c5 k5).binds (ps := ["self", "value"]) fun _ _ _ _ _ _ us hl => match us, hl with | [_, _], _ => rfl,
    f_Duplicate_init := f6, fd_Duplicate_init := _, F_Duplicate_init := fun_mk (st := s_Duplicate_init) l6 c6 k6, b_Duplicate_init := (fun_mk (st := s_Duplicate_init) l6 c6 k6).binds (ps := ["self", "name"]) fun _ _ _ _ _ _ us hl => match us, hl with | [_, _], _ => rfl,
    f_UnknownMode_init := f7, fd_UnknownMode_init := _, F_UnknownMode_init := fun_mk (st := s_UnknownMode_init) l7 c7 k7, b_UnknownMode_init := (fun_mk (st := s_UnknownMode_init) l7 c7 k7).binds (ps := ["self", "name"]) fun _ _ _ _ _ _ us hl => match us, hl with | [_, _], _ => rfl,
    f_is_name := f8, fd_is_name := _, F_is_name := fun_mk (st := s_is_name) l8 c8 k8, b_is_name := (fun_mk (st := s_is_name) l8 c8 k8).binds (ps := ["value"]) fun _ _ _ _ _ _ us hl => match us, hl with | [_], _ => rfl, m_is_name := PySem.W.mg_of X G a8,
    f_require_name := f9, fd_require_name := _, F_require_name := fun_mk (st := s_require_name) l9 c9 k9, b_require_name := (fun_mk (st := s_require_name) l9 c9 k9).binds (ps := ["value"]) fun _ _ _ _ _ _ us hl => match us, hl with | [_], _ => rfl, m_require_name := PySem.W.mg_of X G a9,
    f_Strengths_init := f10, fd_Strengths_init := _, F_Strengths_init := fun_mk (st := s_Strengths_init) l10 c10 k10, b_Strengths_init := (fun_mk (st := s_Strengths_init) l10 c10 k10).binds (ps := ["self", "modes", "clashes"]) fun _ _ _ _ _ _ us hl => match us, hl with | [_, _, _], _ => rfl,
    f_Strengths_modes := f11, fd_Strengths_modes := _, F_Strengths_modes := fun_mk (st := s_Strengths_modes) l11 c11 k11, b_Strengths_modes := (fun_mk (st := s_Strengths_modes) l11 c11 k11).binds (ps := ["self"]) fun _ _ _ _ _ _ us hl => match us, hl with | [_], _ => rfl,
    f_Strengths_len := f12, fd_Strengths_len := _, F_Strengths_len := fun_mk (st := s_Strengths_len) l12 c12 k12, b_Strengths_len := (fun_mk (st := s_Strengths_len) l12 c12 k12).binds (ps := ["self"]) fun _ _ _ _ _ _ us hl => match us, hl with | [_], _ => rfl,
    f_Strengths_clash := f13, fd_Strengths_clash := _, F_Strengths_clash := fun_mk (st := s_Strengths_clash) l13 c13 k13, b_Strengths_clash := (fun_mk (st := s_Strengths_clash) l13 c13 k13).binds (ps := ["self", "one", "other"]) fun _ _ _ _ _ _ us hl => match us, hl with | [_, _, _], _ => rfl,
    f_Strengths_weaker := f14, fd_Strengths_weaker := _, F_Strengths_weaker := fun_mk (st := s_Strengths_weaker) l14 c14 k14, b_Strengths_weaker := (fun_mk (st := s_Strengths_weaker) l14 c14 k14).binds (ps := ["self", "one", "other"]) fun _ _ _ _ _ _ us hl => match us, hl with | [_, _, _], _ => rfl,
    f_Strengths_clashes := f15, fd_Strengths_clashes := _, F_Strengths_clashes := fun_mk (st := s_Strengths_clashes) l15 c15 k15, b_Strengths_clashes := (fun_mk (st := s_Strengths_clashes) l15 c15 k15).binds (ps := ["self"]) fun _ _ _ _ _ _ us hl => match us, hl with | [_], _ => rfl,
    f_Strengths_eq := f16, fd_Strengths_eq := _, F_Strengths_eq := fun_mk (st := s_Strengths_eq) l16 c16 k16, b_Strengths_eq := (fun_mk (st := s_Strengths_eq) l16 c16 k16).binds (ps := ["self", "other"]) fun _ _ _ _ _ _ us hl => match us, hl with | [_, _], _ => rfl,
    f_Strengths_weakest := f17, fd_Strengths_weakest := _, F_Strengths_weakest := fun_mk (st := s_Strengths_weakest) l17 c17 k17, b_Strengths_weakest := (fun_mk (st := s_Strengths_weakest) l17 c17 k17).binds (ps := ["self"]) fun _ _ _ _ _ _ us hl => match us, hl with | [_], _ => rfl,
    f_Strengths_strongest := f18, fd_Strengths_strongest := _, F_Strengths_strongest := fun_mk (st := s_Strengths_strongest) l18 c18 k18, b_Strengths_strongest := (fun_mk (st := s_Strengths_strongest) l18 c18 k18).binds (ps := ["self"]) fun _ _ _ _ _ _ us hl => match us, hl with | [_], _ => rfl,
    f_Strengths_steps_down := f19, fd_Strengths_steps_down := _, F_Strengths_steps_down := fun_mk (st := s_Strengths_steps_down) l19 c19 k19, b_Strengths_steps_down := (fun_mk (st := s_Strengths_steps_down) l19 c19 k19).binds (ps := ["self", "mode"]) fun _ _ _ _ _ _ us hl => match us, hl with | [_, _], _ => rfl,
    f_Strengths_str := f20, fd_Strengths_str := _, F_Strengths_str := fun_mk (st := s_Strengths_str) l20 c20 k20, b_Strengths_str := (fun_mk (st := s_Strengths_str) l20 c20 k20).binds (ps := ["self"]) fun _ _ _ _ _ _ us hl => match us, hl with | [_], _ => rfl,
    f_Strengths_require_mode := f21, fd_Strengths_require_mode := _, F_Strengths_require_mode := fun_mk (st := s_Strengths_require_mode) l21 c21 k21, b_Strengths_require_mode := (fun_mk (st := s_Strengths_require_mode) l21 c21 k21).binds (ps := ["self", "value"]) fun _ _ _ _ _ _ us hl => match us, hl with | [_, _], _ => rfl,
    f_Strengths_below := f22, fd_Strengths_below := _, F_Strengths_below := fun_mk (st := s_Strengths_below) l22 c22 k22, b_Strengths_below := (fun_mk (st := s_Strengths_below) l22 c22 k22).binds (ps := ["self", "one", "other"]) fun _ _ _ _ _ _ us hl => match us, hl with | [_, _, _], _ => rfl,
    f_require_modes := f23, fd_require_modes := _, F_require_modes := fun_mk (st := s_require_modes) l23 c23 k23, b_require_modes := (fun_mk (st := s_require_modes) l23 c23 k23).binds (ps := ["modes"]) fun _ _ _ _ _ _ us hl => match us, hl with | [_], _ => rfl, m_require_modes := PySem.W.mg_of X G a23,
    f_require_clashes := f24, fd_require_clashes := _, F_require_clashes := fun_mk (st := s_require_clashes) l24 c24 k24, b_require_clashes := (fun_mk (st := s_require_clashes) l24 c24 k24).binds (ps := ["clashes", "modes"]) fun _ _ _ _ _ _ us hl => match us, hl with | [_, _], _ => rfl, m_require_clashes := PySem.W.mg_of X G a24,
    f_clashing_modes := f25, fd_clashing_modes := _, F_clashing_modes := fun_mk (st := s_clashing_modes) l25 c25 k25, b_clashing_modes := (fun_mk (st := s_clashing_modes) l25 c25 k25).binds (ps := ["mode", "modes", "clashes"]) fun _ _ _ _ _ _ us hl => match us, hl with | [_, _, _], _ => rfl, m_clashing_modes := PySem.W.mg_of X G a25,
    f_read_strengths := f26, fd_read_strengths := _, F_read_strengths := fun_mk (st := s_read_strengths) l26 c26 k26, b_read_strengths := (fun_mk (st := s_read_strengths) l26 c26 k26).binds (ps := ["text"]) fun _ _ _ _ _ _ us hl => match us, hl with | [_], _ => rfl, m_read_strengths := PySem.W.mg_of X G a26,
    f_parsed_strengths := f27, fd_parsed_strengths := _, F_parsed_strengths := fun_mk (st := s_parsed_strengths) l27 c27 k27, b_parsed_strengths := (fun_mk (st := s_parsed_strengths) l27 c27 k27).binds (ps := ["text"]) fun _ _ _ _ _ _ us hl => match us, hl with | [_], _ => rfl, m_parsed_strengths := PySem.W.mg_of X G a27,
    f_law_cell := f28, fd_law_cell := _, F_law_cell := fun_mk (st := s_law_cell) l28 c28 k28, b_law_cell := (fun_mk (st := s_law_cell) l28 c28 k28).binds (ps := ["_law_script", "_law_k"]) fun _ _ _ _ _ _ us hl => match us, hl with | [_, _], _ => rfl, m_law_cell := PySem.W.mg_of X G a28,
    f_law_box := f29, fd_law_box := _, F_law_box := fun_mk (st := s_law_box) l29 c29 k29, b_law_box := (fun_mk (st := s_law_box) l29 c29 k29).binds (ps := ["_law_cell_here"]) fun _ _ _ _ _ _ us hl => match us, hl with | [_], _ => rfl, m_law_box := PySem.W.mg_of X G a29,
    f_law_take := f30, fd_law_take := _, F_law_take := fun_mk (st := s_law_take) l30 c30 k30, b_law_take := (fun_mk (st := s_law_take) l30 c30 k30).binds (ps := ["_law_box_here", "_law_many"]) fun _ _ _ _ _ _ us hl => match us, hl with | [_, _], _ => rfl, m_law_take := PySem.W.mg_of X G a30,
    f_law_mixed := f31, fd_law_mixed := _, F_law_mixed := fun_mk (st := s_law_mixed) l31 c31 k31, b_law_mixed := (fun_mk (st := s_law_mixed) l31 c31 k31).binds (ps := ["_law_box_here", "_law_some"]) fun _ _ _ _ _ _ us hl => match us, hl with | [_, _], _ => rfl, m_law_mixed := PySem.W.mg_of X G a31,
    f_law_names := f32, fd_law_names := _, F_law_names := fun_mk (st := s_law_names) l32 c32 k32, b_law_names := (fun_mk (st := s_law_names) l32 c32 k32).binds (ps := ["_law_box_here", "_law_many"]) fun _ _ _ _ _ _ us hl => match us, hl with | [_, _], _ => rfl, m_law_names := PySem.W.mg_of X G a32,
    f_law_modes := f33, fd_law_modes := _, F_law_modes := fun_mk (st := s_law_modes) l33 c33 k33, b_law_modes := (fun_mk (st := s_law_modes) l33 c33 k33).binds (ps := ["_law_box_here", "_law_most"]) fun _ _ _ _ _ _ us hl => match us, hl with | [_, _], _ => rfl, m_law_modes := PySem.W.mg_of X G a33,
    f_law_against := f34, fd_law_against := _, F_law_against := fun_mk (st := s_law_against) l34 c34 k34, b_law_against := (fun_mk (st := s_law_against) l34 c34 k34).binds (ps := ["_law_model", "_law_mode"]) fun _ _ _ _ _ _ us hl => match us, hl with | [_, _], _ => rfl, m_law_against := PySem.W.mg_of X G a34,
    f_law_pairs := f35, fd_law_pairs := _, F_law_pairs := fun_mk (st := s_law_pairs) l35 c35 k35, b_law_pairs := (fun_mk (st := s_law_pairs) l35 c35 k35).binds (ps := ["_law_model"]) fun _ _ _ _ _ _ us hl => match us, hl with | [_], _ => rfl, m_law_pairs := PySem.W.mg_of X G a35,
    f_law_text := f36, fd_law_text := _, F_law_text := fun_mk (st := s_law_text) l36 c36 k36, b_law_text := (fun_mk (st := s_law_text) l36 c36 k36).binds (ps := ["_law_model"]) fun _ _ _ _ _ _ us hl => match us, hl with | [_], _ => rfl, m_law_text := PySem.W.mg_of X G a36,
    f_law_is_name := f37, fd_law_is_name := _, F_law_is_name := fun_mk (st := s_law_is_name) l37 c37 k37, b_law_is_name := (fun_mk (st := s_law_is_name) l37 c37 k37).binds (ps := ["_law_value"]) fun _ _ _ _ _ _ us hl => match us, hl with | [_], _ => rfl, m_law_is_name := PySem.W.mg_of X G a37,
    f_law_read := f38, fd_law_read := _, F_law_read := fun_mk (st := s_law_read) l38 c38 k38, b_law_read := (fun_mk (st := s_law_read) l38 c38 k38).binds (ps := ["_law_text_here"]) fun _ _ _ _ _ _ us hl => match us, hl with | [_], _ => rfl, m_law_read := PySem.W.mg_of X G a38,
    f_law_told := f39, fd_law_told := _, F_law_told := fun_mk (st := s_law_told) l39 c39 k39, b_law_told := (fun_mk (st := s_law_told) l39 c39 k39).binds (ps := ["_law_value"]) fun _ _ _ _ _ _ us hl => match us, hl with | [_], _ => rfl, m_law_told := PySem.W.mg_of X G a39,
    f_law_bent := f40, fd_law_bent := _, F_law_bent := fun_mk (st := s_law_bent) l40 c40 k40, b_law_bent := (fun_mk (st := s_law_bent) l40 c40 k40).binds (ps := ["_law_box_here", "_law_text_here"]) fun _ _ _ _ _ _ us hl => match us, hl with | [_, _], _ => rfl, m_law_bent := PySem.W.mg_of X G a40,
    f_law := fa, fd_law := _, F_law := fun_mk (st := s_law) l41 c41 k41, b_law := (fun_mk (st := s_law) l41 c41 k41).binds (ps := ["_law_script"]) fun _ _ _ _ _ _ us hl => match us, hl with | [_], _ => rfl, m_law := PySem.W.mg_of X G a41,
    C_PartsError := C_PartsError, g_PartsError := PySem.W.mg_of X G g_PartsError,
    C_InvalidName := C_InvalidName, g_InvalidName := PySem.W.mg_of X G g_InvalidName,
    x_InvalidName := ⟨⟨_, _, _, _, _, _, _, _, _, _, _, _, _, _, _, xL_InvalidName, rB_InvalidName⟩, sa_InvalidName, eC_InvalidName, tC_InvalidName, kC_InvalidName⟩, y_InvalidName := ⟨ga_InvalidName, gg_InvalidName, eC_InvalidName, hC_InvalidName⟩, n_InvalidName := nb_InvalidName, i_InvalidName := a1, t_InvalidName := t1_InvalidName,
    C_InvalidModes := C_InvalidModes, g_InvalidModes := PySem.W.mg_of X G g_InvalidModes,
    x_InvalidModes := ⟨⟨_, _, _, _, _, _, _, _, _, _, _, _, _, _, _, xL_InvalidModes, rB_InvalidModes⟩, sa_InvalidModes, eC_InvalidModes, tC_InvalidModes, kC_InvalidModes⟩, y_InvalidModes := ⟨ga_InvalidModes, gg_InvalidModes, eC_InvalidModes, hC_InvalidModes⟩, n_InvalidModes := nb_InvalidModes, i_InvalidModes := a2, t_InvalidModes := t1_InvalidModes,
    C_InvalidClash := C_InvalidClash, g_InvalidClash := PySem.W.mg_of X G g_InvalidClash,
    x_InvalidClash := ⟨⟨_, _, _, _, _, _, _, _, _, _, _, _, _, _, _, xL_InvalidClash, rB_InvalidClash⟩, sa_InvalidClash, eC_InvalidClash, tC_InvalidClash, kC_InvalidClash⟩, y_InvalidClash := ⟨ga_InvalidClash, gg_InvalidClash, eC_InvalidClash, hC_InvalidClash⟩, n_InvalidClash := nb_InvalidClash, i_InvalidClash := a3, t_InvalidClash := t1_InvalidClash,
    C_InvalidStrengths := C_InvalidStrengths, g_InvalidStrengths := PySem.W.mg_of X G g_InvalidStrengths,
    x_InvalidStrengths := ⟨⟨_, _, _, _, _, _, _, _, _, _, _, _, _, _, _, xL_InvalidStrengths, rB_InvalidStrengths⟩, sa_InvalidStrengths, eC_InvalidStrengths, tC_InvalidStrengths, kC_InvalidStrengths⟩, y_InvalidStrengths := ⟨ga_InvalidStrengths, gg_InvalidStrengths, eC_InvalidStrengths, hC_InvalidStrengths⟩, n_InvalidStrengths := nb_InvalidStrengths, i_InvalidStrengths := a4, t_InvalidStrengths := t1_InvalidStrengths,
    C_InvalidText := C_InvalidText, g_InvalidText := PySem.W.mg_of X G g_InvalidText,
    x_InvalidText := ⟨⟨_, _, _, _, _, _, _, _, _, _, _, _, _, _, _, xL_InvalidText, rB_InvalidText⟩, sa_InvalidText, eC_InvalidText, tC_InvalidText, kC_InvalidText⟩, y_InvalidText := ⟨ga_InvalidText, gg_InvalidText, eC_InvalidText, hC_InvalidText⟩, n_InvalidText := nb_InvalidText, i_InvalidText := a5, t_InvalidText := t1_InvalidText,
    C_Duplicate := C_Duplicate, g_Duplicate := PySem.W.mg_of X G g_Duplicate,
    x_Duplicate := ⟨⟨_, _, _, _, _, _, _, _, _, _, _, _, _, _, _, xL_Duplicate, rB_Duplicate⟩, sa_Duplicate, eC_Duplicate, tC_Duplicate, kC_Duplicate⟩, y_Duplicate := ⟨ga_Duplicate, gg_Duplicate, eC_Duplicate, hC_Duplicate⟩, n_Duplicate := nb_Duplicate, i_Duplicate := a6, t_Duplicate := t1_Duplicate,
    C_UnknownMode := C_UnknownMode, g_UnknownMode := PySem.W.mg_of X G g_UnknownMode,
    x_UnknownMode := ⟨⟨_, _, _, _, _, _, _, _, _, _, _, _, _, _, _, xL_UnknownMode, rB_UnknownMode⟩, sa_UnknownMode, eC_UnknownMode, tC_UnknownMode, kC_UnknownMode⟩, y_UnknownMode := ⟨ga_UnknownMode, gg_UnknownMode, eC_UnknownMode, hC_UnknownMode⟩, n_UnknownMode := nb_UnknownMode, i_UnknownMode := a7, t_UnknownMode := t1_UnknownMode,
    C_Strengths := C_Strengths, g_Strengths := PySem.W.mg_of X G g_Strengths, cl_Strengths := ⟨pg_Strengths, hd_Strengths, po_Strengths, st_Strengths⟩, mk_Strengths := ⟨mm_Strengths, a10, i10, kc_Strengths⟩, ic_Strengths := ⟨⟨pg_Strengths, hd_Strengths, po_Strengths, st_Strengths⟩, ha_Strengths, hn_Strengths, ht_Strengths, hm_Strengths, kt_Strengths⟩,
    me_Strengths_init := ⟨a10, i10, k10⟩,
    me_Strengths_modes := ⟨a11, i11, k11⟩,
    me_Strengths_len := ⟨a12, i12, k12⟩,
    me_Strengths_clash := ⟨a13, i13, k13⟩,
    me_Strengths_weaker := ⟨a14, i14, k14⟩,
    me_Strengths_clashes := ⟨a15, i15, k15⟩,
    me_Strengths_eq := ⟨a16, i16, k16⟩,
    me_Strengths_weakest := ⟨a17, i17, k17⟩,
    me_Strengths_strongest := ⟨a18, i18, k18⟩,
    me_Strengths_steps_down := ⟨a19, i19, k19⟩,
    me_Strengths_str := ⟨a20, i20, k20⟩,
    me_Strengths_require_mode := ⟨a21, i21, k21⟩,
    me_Strengths_below := ⟨a22, i22, k22⟩,
    no_Strengths_modes := no_Strengths_modes,
    no_Strengths_against := no_Strengths_against,
    io_Strengths_list := io_Strengths_list, nf_Strengths_list := nf_Strengths_list,
    io_Strengths_str := io_Strengths_str, nf_Strengths_str := nf_Strengths_str,
    io_own_Strengths_str := io_own_Strengths_str,
    e_InvalidModes_PartsError := e_InvalidModes_PartsError,
    e_InvalidName_PartsError := e_InvalidName_PartsError,
    e_Duplicate_PartsError := e_Duplicate_PartsError,
    e_InvalidStrengths_PartsError := e_InvalidStrengths_PartsError,
    e_InvalidClash_PartsError := e_InvalidClash_PartsError,
    e_UnknownMode_PartsError := e_UnknownMode_PartsError,
    e_InvalidText_InvalidText := e_InvalidText_InvalidText,
    t_LONGEST_NAME := t_LONGEST_NAME, c_LONGEST_NAME := PySem.W.mg_of X G v_LONGEST_NAME,
    t_MOST_MODES := t_MOST_MODES, c_MOST_MODES := PySem.W.mg_of X G v_MOST_MODES,
    z_all := PySem.W.mg_none_of X G z_all,
    z_isinstance := PySem.W.mg_none_of X G z_isinstance,
    z_str := PySem.W.mg_none_of X G z_str,
    z_len := PySem.W.mg_none_of X G z_len,
    z_list := PySem.W.mg_none_of X G z_list,
    z_enumerate := PySem.W.mg_none_of X G z_enumerate,
    z_tuple := PySem.W.mg_none_of X G z_tuple,
    z_max := PySem.W.mg_none_of X G z_max,
    z_range := PySem.W.mg_none_of X G z_range,
    z_min := PySem.W.mg_none_of X G z_min }
  exact ⟨T.fd_law, fun s v => .of_eq rfl, fun base _ _ => ok_law T⟩
theorem walk {l : PySem.W.OpenLaw} {q : Program} {loose : List Str} {XP : (Str → Option Value) → Heap → Prop} {YP : World → Heap → Prop} {d : DefRec} {K : Params → PySem.W.Frag} (hn : l.most = some 63) (hdf : d.params.defaults = [])
    (hY : ∀ (w : World) (h : Heap), YP w h → (K w.params).In h)
    (F : ∀ (w : World) (mg : Str → Option Value) (fa : Addr) (h : Heap), (K w.params).In h → h.Ns mainGlobals mg → mg d.name = some (.ref fa) →
      ∃ fd : FuncData, (∀ (s : Shared) (u : Value), BindsTo s fd ⟨[u], []⟩ [("_law_script", u)]) ∧ ∀ base : Heap, (K w.params).In base → base.Ns mainGlobals mg → FnOk l.prog w (K w.params) mg base CX0 10 fa fd ["_law_script"] (sp_law (K w.params))) :
    PySem.W.WalkO q loose XP YP l.row.toRowW d [] (fun f vs => PySem.call f vs) :=
  L2.walk_of (n := 63) (k := 10) (x := "_law_script") (CX := fun _ => CX0) (sp := fun w => sp_law (K w.params)) hn (by decide) hdf ⟨rfl, by decide, by decide⟩ hY F (fun _ _ a ns hl _ hS => ⟨a, ns, rfl, hS, hl, fun _ => rfl⟩) fun _ _ _ _ _ z => z
end My
open PySem PySem.W PyProof.Rows
set_option maxRecDepth 100000 in
set_option maxHeartbeats 0 in
theorem PySem.Challenge.cw_hungparts_k18_texts_of_strengths_holds : PySem.Challenge.rw_hungparts_k18_texts_of_strengths.Holds := by
  w_on; o_law; k_head; (case hw => w_witness2)
  k_fill
  refine My.walk (l := PySem.Challenge.rw_hungparts_k18_texts_of_strengths) rfl rfl (fun w h Y => PySem.W.kIn_of Y) ?F
  case F =>
    intro w mg fa h KX G hmg
    refine' My.all_mk KX G hmg ?a0 ?l0 ?c0 ?k0 ?a1 ?l1 ?c1 ?k1 ?a2 ?l2 ?c2 ?k2 ?a3 ?l3 ?c3 ?k3 ?a4 ?l4 ?c4 ?k4 ?a5 ?l5 ?c5 ?k5 ?a6 ?l6 ?c6 ?k6 ?a7 ?l7 ?c7 ?k7 ?a8 ?l8 ?c8 ?k8 ?a9 ?l9 ?c9 ?k9 ?a10 ?l10 ?c10 ?k10 ?a11 ?l11 ?c11 ?k11 ?a12 ?l12 ?c12 ?k12 ?a13 ?l13 ?c13 ?k13 ?a14 ?l14 ?c14 ?k14 ?a15 ?l15 ?c15 ?k15 ?a16 ?l16 ?c16 ?k16 ?a17 ?l17 ?c17 ?k17 ?a18 ?l18 ?c18 ?k18 ?a19 ?l19 ?c19 ?k19 ?a20 ?l20 ?c20 ?k20 ?a21 ?l21 ?c21 ?k21 ?a22 ?l22 ?c22 ?k22 ?a23 ?l23 ?c23 ?k23 ?a24 ?l24 ?c24 ?k24 ?a25 ?l25 ?c25 ?k25 ?a26 ?l26 ?c26 ?k26 ?a27 ?l27 ?c27 ?k27 ?a28 ?l28 ?c28 ?k28 ?a29 ?l29 ?c29 ?k29 ?a30 ?l30 ?c30 ?k30 ?a31 ?l31 ?c31 ?k31 ?a32 ?l32 ?c32 ?k32 ?a33 ?l33 ?c33 ?k33 ?a34 ?l34 ?c34 ?k34 ?a35 ?l35 ?c35 ?k35 ?a36 ?l36 ?c36 ?k36 ?a37 ?l37 ?c37 ?k37 ?a38 ?l38 ?c38 ?k38 ?a39 ?l39 ?c39 ?k39 ?a40 ?l40 ?c40 ?k40 ?a41 ?l41 ?c41 ?k41 ?g_PartsError ?g_InvalidName ?xL_InvalidName ?rB_InvalidName ?sa_InvalidName ?ga_InvalidName ?gg_InvalidName ?nb_InvalidName ?t1_InvalidName ?kC_InvalidName ?eC_InvalidName ?tC_InvalidName ?hC_InvalidName ?g_InvalidModes ?xL_InvalidModes ?rB_InvalidModes ?sa_InvalidModes ?ga_InvalidModes ?gg_InvalidModes ?nb_InvalidModes ?t1_InvalidModes ?kC_InvalidModes ?eC_InvalidModes ?tC_InvalidModes ?hC_InvalidModes ?g_InvalidClash ?xL_InvalidClash ?rB_InvalidClash ?sa_InvalidClash ?ga_InvalidClash ?gg_InvalidClash ?nb_InvalidClash ?t1_InvalidClash ?kC_InvalidClash ?eC_InvalidClash ?tC_InvalidClash ?hC_InvalidClash ?g_InvalidStrengths ?xL_InvalidStrengths ?rB_InvalidStrengths ?sa_InvalidStrengths ?ga_InvalidStrengths ?gg_InvalidStrengths ?nb_InvalidStrengths ?t1_InvalidStrengths ?kC_InvalidStrengths ?eC_InvalidStrengths ?tC_InvalidStrengths ?hC_InvalidStrengths ?g_InvalidText ?xL_InvalidText ?rB_InvalidText ?sa_InvalidText ?ga_InvalidText ?gg_InvalidText ?nb_InvalidText ?t1_InvalidText ?kC_InvalidText ?eC_InvalidText ?tC_InvalidText ?hC_InvalidText ?g_Duplicate ?xL_Duplicate ?rB_Duplicate ?sa_Duplicate ?ga_Duplicate ?gg_Duplicate ?nb_Duplicate ?t1_Duplicate ?kC_Duplicate ?eC_Duplicate ?tC_Duplicate ?hC_Duplicate ?g_UnknownMode ?xL_UnknownMode ?rB_UnknownMode ?sa_UnknownMode ?ga_UnknownMode ?gg_UnknownMode ?nb_UnknownMode ?t1_UnknownMode ?kC_UnknownMode ?eC_UnknownMode ?tC_UnknownMode ?hC_UnknownMode ?g_Strengths ?pg_Strengths ?hd_Strengths ?po_Strengths ?st_Strengths ?mm_Strengths ?kc_Strengths ?ha_Strengths ?hn_Strengths ?ht_Strengths ?hm_Strengths ?kt_Strengths ?i10 ?i11 ?i12 ?i13 ?i14 ?i15 ?i16 ?i17 ?i18 ?i19 ?i20 ?i21 ?i22 ?no_Strengths_modes ?no_Strengths_against ?io_Strengths_list ?nf_Strengths_list ?io_Strengths_str ?nf_Strengths_str ?io_own_Strengths_str ?e_InvalidModes_PartsError ?e_InvalidName_PartsError ?e_Duplicate_PartsError ?e_InvalidStrengths_PartsError ?e_InvalidClash_PartsError ?e_UnknownMode_PartsError ?e_InvalidText_InvalidText ?v_LONGEST_NAME ?v_MOST_MODES ?z_all ?z_isinstance ?z_str ?z_len ?z_list ?z_enumerate ?z_tuple ?z_max ?z_range ?z_min
    (case g_PartsError => k_is)
    (case g_InvalidName => k_is)
    (case g_InvalidModes => k_is)
    (case g_InvalidClash => k_is)
    (case g_InvalidStrengths => k_is)
    (case g_InvalidText => k_is)
    (case g_Duplicate => k_is)
    (case g_UnknownMode => k_is)
    (case g_Strengths => k_is)
    (case a0 => k_is)
    (case l0 => k_is)
    (case c0 => k_is)
    (case k0 => k_is)
    (case a1 => k_is)
    (case l1 => k_is)
    (case c1 => k_is)
    (case k1 => k_is)
    (case a2 => k_is)
    (case l2 => k_is)
    (case c2 => k_is)
    (case k2 => k_is)
    (case a3 => k_is)
    (case l3 => k_is)
    (case c3 => k_is)
    (case k3 => k_is)
    (case a4 => k_is)
    (case l4 => k_is)
    (case c4 => k_is)
    (case k4 => k_is)
    (case a5 => k_is)
    (case l5 => k_is)
    (case c5 => k_is)
    (case k5 => k_is)
    (case a6 => k_is)
    (case l6 => k_is)
    (case c6 => k_is)
    (case k6 => k_is)
    (case a7 => k_is)
    (case l7 => k_is)
    (case c7 => k_is)
    (case k7 => k_is)
    (case a8 => k_is)
    (case l8 => k_is)
    (case c8 => k_is)
    (case k8 => k_is)
    (case a9 => k_is)
    (case l9 => k_is)
    (case c9 => k_is)
    (case k9 => k_is)
    (case a10 => k_is)
    (case l10 => k_is)
    (case c10 => k_is)
    (case k10 => k_is)
    (case a11 => k_is)
    (case l11 => k_is)
    (case c11 => k_is)
    (case k11 => k_is)
    (case a12 => k_is)
    (case l12 => k_is)
    (case c12 => k_is)
    (case k12 => k_is)
    (case a13 => k_is)
    (case l13 => k_is)
    (case c13 => k_is)
    (case k13 => k_is)
    (case a14 => k_is)
    (case l14 => k_is)
    (case c14 => k_is)
    (case k14 => k_is)
    (case a15 => k_is)
    (case l15 => k_is)
    (case c15 => k_is)
    (case k15 => k_is)
    (case a16 => k_is)
    (case l16 => k_is)
    (case c16 => k_is)
    (case k16 => k_is)
    (case a17 => k_is)
    (case l17 => k_is)
    (case c17 => k_is)
    (case k17 => k_is)
    (case a18 => k_is)
    (case l18 => k_is)
    (case c18 => k_is)
    (case k18 => k_is)
    (case a19 => k_is)
    (case l19 => k_is)
    (case c19 => k_is)
    (case k19 => k_is)
    (case a20 => k_is)
    (case l20 => k_is)
    (case c20 => k_is)
    (case k20 => k_is)
    (case a21 => k_is)
    (case l21 => k_is)
    (case c21 => k_is)
    (case k21 => k_is)
    (case a22 => k_is)
    (case l22 => k_is)
    (case c22 => k_is)
    (case k22 => k_is)
    (case a23 => k_is)
    (case l23 => k_is)
    (case c23 => k_is)
    (case k23 => k_is)
    (case a24 => k_is)
    (case l24 => k_is)
    (case c24 => k_is)
    (case k24 => k_is)
    (case a25 => k_is)
    (case l25 => k_is)
    (case c25 => k_is)
    (case k25 => k_is)
    (case a26 => k_is)
    (case l26 => k_is)
    (case c26 => k_is)
    (case k26 => k_is)
    (case a27 => k_is)
    (case l27 => k_is)
    (case c27 => k_is)
    (case k27 => k_is)
    (case a28 => k_is)
    (case l28 => k_is)
    (case c28 => k_is)
    (case k28 => k_is)
    (case a29 => k_is)
    (case l29 => k_is)
    (case c29 => k_is)
    (case k29 => k_is)
    (case a30 => k_is)
    (case l30 => k_is)
    (case c30 => k_is)
    (case k30 => k_is)
    (case a31 => k_is)
    (case l31 => k_is)
    (case c31 => k_is)
    (case k31 => k_is)
    (case a32 => k_is)
    (case l32 => k_is)
    (case c32 => k_is)
    (case k32 => k_is)
    (case a33 => k_is)
    (case l33 => k_is)
    (case c33 => k_is)
    (case k33 => k_is)
    (case a34 => k_is)
    (case l34 => k_is)
    (case c34 => k_is)
    (case k34 => k_is)
    (case a35 => k_is)
    (case l35 => k_is)
    (case c35 => k_is)
    (case k35 => k_is)
    (case a36 => k_is)
    (case l36 => k_is)
    (case c36 => k_is)
    (case k36 => k_is)
    (case a37 => k_is)
    (case l37 => k_is)
    (case c37 => k_is)
    (case k37 => k_is)
    (case a38 => k_is)
    (case l38 => k_is)
    (case c38 => k_is)
    (case k38 => k_is)
    (case a39 => k_is)
    (case l39 => k_is)
    (case c39 => k_is)
    (case k39 => k_is)
    (case a40 => k_is)
    (case l40 => k_is)
    (case c40 => k_is)
    (case k40 => k_is)
    (case a41 => k_is)
    (case l41 => k_is)
    (case c41 => k_is)
    (case k41 => k_is)
    (case xL_InvalidName => k_is)
    (case rB_InvalidName => decide +kernel)
    (case sa_InvalidName => k_is)
    (case ga_InvalidName => k_is)
    (case gg_InvalidName => k_is)
    (case nb_InvalidName => k_is)
    (case t1_InvalidName => k_is)
    (case kC_InvalidName => k_is)
    (case eC_InvalidName => k_is)
    (case tC_InvalidName => k_is)
    (case hC_InvalidName => k_is)
    (case xL_InvalidModes => k_is)
    (case rB_InvalidModes => decide +kernel)
    (case sa_InvalidModes => k_is)
    (case ga_InvalidModes => k_is)
    (case gg_InvalidModes => k_is)
    (case nb_InvalidModes => k_is)
    (case t1_InvalidModes => k_is)
    (case kC_InvalidModes => k_is)
    (case eC_InvalidModes => k_is)
    (case tC_InvalidModes => k_is)
    (case hC_InvalidModes => k_is)
    (case xL_InvalidClash => k_is)
    (case rB_InvalidClash => decide +kernel)
    (case sa_InvalidClash => k_is)
    (case ga_InvalidClash => k_is)
    (case gg_InvalidClash => k_is)
    (case nb_InvalidClash => k_is)
    (case t1_InvalidClash => k_is)
    (case kC_InvalidClash => k_is)
    (case eC_InvalidClash => k_is)
    (case tC_InvalidClash => k_is)
    (case hC_InvalidClash => k_is)
    (case xL_InvalidStrengths => k_is)
    (case rB_InvalidStrengths => decide +kernel)
    (case sa_InvalidStrengths => k_is)
    (case ga_InvalidStrengths => k_is)
    (case gg_InvalidStrengths => k_is)
    (case nb_InvalidStrengths => k_is)
    (case t1_InvalidStrengths => k_is)
    (case kC_InvalidStrengths => k_is)
    (case eC_InvalidStrengths => k_is)
    (case tC_InvalidStrengths => k_is)
    (case hC_InvalidStrengths => k_is)
    (case xL_InvalidText => k_is)
    (case rB_InvalidText => decide +kernel)
    (case sa_InvalidText => k_is)
    (case ga_InvalidText => k_is)
    (case gg_InvalidText => k_is)
    (case nb_InvalidText => k_is)
    (case t1_InvalidText => k_is)
    (case kC_InvalidText => k_is)
    (case eC_InvalidText => k_is)
    (case tC_InvalidText => k_is)
    (case hC_InvalidText => k_is)
    (case xL_Duplicate => k_is)
    (case rB_Duplicate => decide +kernel)
    (case sa_Duplicate => k_is)
    (case ga_Duplicate => k_is)
    (case gg_Duplicate => k_is)
    (case nb_Duplicate => k_is)
    (case t1_Duplicate => k_is)
    (case kC_Duplicate => k_is)
    (case eC_Duplicate => k_is)
    (case tC_Duplicate => k_is)
    (case hC_Duplicate => k_is)
    (case xL_UnknownMode => k_is)
    (case rB_UnknownMode => decide +kernel)
    (case sa_UnknownMode => k_is)
    (case ga_UnknownMode => k_is)
    (case gg_UnknownMode => k_is)
    (case nb_UnknownMode => k_is)
    (case t1_UnknownMode => k_is)
    (case kC_UnknownMode => k_is)
    (case eC_UnknownMode => k_is)
    (case tC_UnknownMode => k_is)
    (case hC_UnknownMode => k_is)
    (case pg_Strengths => k_is)
    (case hd_Strengths => k_is)
    (case po_Strengths => k_is)
    (case st_Strengths => k_is)
    (case mm_Strengths => k_is)
    (case kc_Strengths => k_is)
    (case ha_Strengths => k_is)
    (case hn_Strengths => k_is)
    (case ht_Strengths => k_is)
    (case hm_Strengths => k_is)
    (case kt_Strengths => first | rfl | k_is)
    (case i10 => k_is)
    (case i11 => k_is)
    (case i12 => k_is)
    (case i13 => k_is)
    (case i14 => k_is)
    (case i15 => k_is)
    (case i16 => k_is)
    (case i17 => k_is)
    (case i18 => k_is)
    (case i19 => k_is)
    (case i20 => k_is)
    (case i21 => k_is)
    (case i22 => k_is)
    (case no_Strengths_modes => k_is)
    (case no_Strengths_against => k_is)
    (case io_Strengths_list => first | rfl | k_is)
    (case nf_Strengths_list => first | rfl | k_is)
    (case io_Strengths_str => first | rfl | k_is)
    (case nf_Strengths_str => first | rfl | k_is)
    (case io_own_Strengths_str => first | rfl | k_is)
    (case e_InvalidModes_PartsError => first | rfl | k_is)
    (case e_InvalidName_PartsError => first | rfl | k_is)
    (case e_Duplicate_PartsError => first | rfl | k_is)
    (case e_InvalidStrengths_PartsError => first | rfl | k_is)
    (case e_InvalidClash_PartsError => first | rfl | k_is)
    (case e_UnknownMode_PartsError => first | rfl | k_is)
    (case e_InvalidText_InvalidText => first | rfl | k_is)
    (case v_LONGEST_NAME => k_is)
    (case v_MOST_MODES => k_is)
    (case z_all => k_is)
    (case z_isinstance => k_is)
    (case z_str => k_is)
    (case z_len => k_is)
    (case z_list => k_is)
    (case z_enumerate => k_is)
    (case z_tuple => k_is)
    (case z_max => k_is)
    (case z_range => k_is)
    (case z_min => k_is)
#print axioms PySem.Challenge.cw_hungparts_k18_texts_of_strengths_holds

