import PyProof.Rows.All
import Wide.All
import OpenK.AllK
import Wide.FinOn
import HandS.ForMost
import HandS.ForExc
import HandS.IsInst
import HandS.Walk
import HandS.Codes
import HandS.SortKw
import HandS.TryMany
import HandS.ExcInit
import HandS.ExcField
import KE.DatumOrd
import HandS.More
import HandS.CallSlots
import HandS.Defaults
import HandS.TupAny
import HandS.ExcValue
import KE.KExcIs
import HandS.HeadHook1
import HandS.DictComp
import PySem.Challenge.RW_hungparts_k04_exceptions_and_their_field
set_option Elab.async false
set_option linter.all false
set_option maxRecDepth 100000
set_option maxHeartbeats 4000000

namespace My
open PySem L2
def top (i : Nat) : Stmt := PySem.Challenge.pw_hungparts_k04_exceptions_and_their_field.main.body.getD i (.Pass ⟨0, 0, 0, 0⟩)
abbrev s_InvalidName_init : Stmt := inClass (top 2) 0
theorem sc_InvalidName_init : FnScope ["self", "value"] ["self", "value"] (defScope s_InvalidName_init) := ⟨rfl, rfl, rfl, by decide +kernel, rfl, by decide +kernel, by decide +kernel⟩
abbrev s_InvalidKey_init : Stmt := inClass (top 3) 0
theorem sc_InvalidKey_init : FnScope ["self", "value"] ["self", "value"] (defScope s_InvalidKey_init) := ⟨rfl, rfl, rfl, by decide +kernel, rfl, by decide +kernel, by decide +kernel⟩
abbrev s_InvalidSpan_init : Stmt := inClass (top 4) 0
theorem sc_InvalidSpan_init : FnScope ["self", "value"] ["self", "value"] (defScope s_InvalidSpan_init) := ⟨rfl, rfl, rfl, by decide +kernel, rfl, by decide +kernel, by decide +kernel⟩
abbrev s_InvalidSpans_init : Stmt := inClass (top 5) 0
theorem sc_InvalidSpans_init : FnScope ["self", "value"] ["self", "value"] (defScope s_InvalidSpans_init) := ⟨rfl, rfl, rfl, by decide +kernel, rfl, by decide +kernel, by decide +kernel⟩
abbrev s_InvalidCatalog_init : Stmt := inClass (top 6) 0
theorem sc_InvalidCatalog_init : FnScope ["self", "value"] ["self", "value"] (defScope s_InvalidCatalog_init) := ⟨rfl, rfl, rfl, by decide +kernel, rfl, by decide +kernel, by decide +kernel⟩
abbrev s_InvalidChange_init : Stmt := inClass (top 7) 0
theorem sc_InvalidChange_init : FnScope ["self", "value"] ["self", "value"] (defScope s_InvalidChange_init) := ⟨rfl, rfl, rfl, by decide +kernel, rfl, by decide +kernel, by decide +kernel⟩
abbrev s_InvalidModes_init : Stmt := inClass (top 8) 0
theorem sc_InvalidModes_init : FnScope ["self", "value"] ["self", "value"] (defScope s_InvalidModes_init) := ⟨rfl, rfl, rfl, by decide +kernel, rfl, by decide +kernel, by decide +kernel⟩
abbrev s_InvalidClash_init : Stmt := inClass (top 9) 0
theorem sc_InvalidClash_init : FnScope ["self", "value"] ["self", "value"] (defScope s_InvalidClash_init) := ⟨rfl, rfl, rfl, by decide +kernel, rfl, by decide +kernel, by decide +kernel⟩
abbrev s_InvalidStrengths_init : Stmt := inClass (top 10) 0
theorem sc_InvalidStrengths_init : FnScope ["self", "value"] ["self", "value"] (defScope s_InvalidStrengths_init) := ⟨rfl, rfl, rfl, by decide +kernel, rfl, by decide +kernel, by decide +kernel⟩
abbrev s_InvalidProgram_init : Stmt := inClass (top 11) 0
theorem sc_InvalidProgram_init : FnScope ["self", "value"] ["self", "value"] (defScope s_InvalidProgram_init) := ⟨rfl, rfl, rfl, by decide +kernel, rfl, by decide +kernel, by decide +kernel⟩
abbrev s_InvalidPrograms_init : Stmt := inClass (top 12) 0
theorem sc_InvalidPrograms_init : FnScope ["self", "value"] ["self", "value"] (defScope s_InvalidPrograms_init) := ⟨rfl, rfl, rfl, by decide +kernel, rfl, by decide +kernel, by decide +kernel⟩
abbrev s_InvalidProtocol_init : Stmt := inClass (top 13) 0
theorem sc_InvalidProtocol_init : FnScope ["self", "value"] ["self", "value"] (defScope s_InvalidProtocol_init) := ⟨rfl, rfl, rfl, by decide +kernel, rfl, by decide +kernel, by decide +kernel⟩
abbrev s_InvalidRows_init : Stmt := inClass (top 14) 0
theorem sc_InvalidRows_init : FnScope ["self", "value"] ["self", "value"] (defScope s_InvalidRows_init) := ⟨rfl, rfl, rfl, by decide +kernel, rfl, by decide +kernel, by decide +kernel⟩
abbrev s_InvalidSession_init : Stmt := inClass (top 15) 0
theorem sc_InvalidSession_init : FnScope ["self", "value"] ["self", "value"] (defScope s_InvalidSession_init) := ⟨rfl, rfl, rfl, by decide +kernel, rfl, by decide +kernel, by decide +kernel⟩
abbrev s_InvalidNumber_init : Stmt := inClass (top 16) 0
theorem sc_InvalidNumber_init : FnScope ["self", "value"] ["self", "value"] (defScope s_InvalidNumber_init) := ⟨rfl, rfl, rfl, by decide +kernel, rfl, by decide +kernel, by decide +kernel⟩
abbrev s_InvalidWeaving_init : Stmt := inClass (top 17) 0
theorem sc_InvalidWeaving_init : FnScope ["self", "value"] ["self", "value"] (defScope s_InvalidWeaving_init) := ⟨rfl, rfl, rfl, by decide +kernel, rfl, by decide +kernel, by decide +kernel⟩
abbrev s_InvalidStore_init : Stmt := inClass (top 18) 0
theorem sc_InvalidStore_init : FnScope ["self", "value"] ["self", "value"] (defScope s_InvalidStore_init) := ⟨rfl, rfl, rfl, by decide +kernel, rfl, by decide +kernel, by decide +kernel⟩
abbrev s_InvalidScene_init : Stmt := inClass (top 19) 0
theorem sc_InvalidScene_init : FnScope ["self", "value"] ["self", "value"] (defScope s_InvalidScene_init) := ⟨rfl, rfl, rfl, by decide +kernel, rfl, by decide +kernel, by decide +kernel⟩
abbrev s_InvalidLog_init : Stmt := inClass (top 20) 0
theorem sc_InvalidLog_init : FnScope ["self", "value"] ["self", "value"] (defScope s_InvalidLog_init) := ⟨rfl, rfl, rfl, by decide +kernel, rfl, by decide +kernel, by decide +kernel⟩
abbrev s_InvalidText_init : Stmt := inClass (top 21) 0
theorem sc_InvalidText_init : FnScope ["self", "value"] ["self", "value"] (defScope s_InvalidText_init) := ⟨rfl, rfl, rfl, by decide +kernel, rfl, by decide +kernel, by decide +kernel⟩
abbrev s_InvalidCommand_init : Stmt := inClass (top 22) 0
theorem sc_InvalidCommand_init : FnScope ["self", "value"] ["self", "value"] (defScope s_InvalidCommand_init) := ⟨rfl, rfl, rfl, by decide +kernel, rfl, by decide +kernel, by decide +kernel⟩
abbrev s_Duplicate_init : Stmt := inClass (top 23) 0
theorem sc_Duplicate_init : FnScope ["self", "name"] ["self", "name"] (defScope s_Duplicate_init) := ⟨rfl, rfl, rfl, by decide +kernel, rfl, by decide +kernel, by decide +kernel⟩
abbrev s_UnknownPart_init : Stmt := inClass (top 24) 0
theorem sc_UnknownPart_init : FnScope ["self", "name"] ["self", "name"] (defScope s_UnknownPart_init) := ⟨rfl, rfl, rfl, by decide +kernel, rfl, by decide +kernel, by decide +kernel⟩
abbrev s_UnknownMode_init : Stmt := inClass (top 25) 0
theorem sc_UnknownMode_init : FnScope ["self", "name"] ["self", "name"] (defScope s_UnknownMode_init) := ⟨rfl, rfl, rfl, by decide +kernel, rfl, by decide +kernel, by decide +kernel⟩
abbrev s_UnknownEntry_init : Stmt := inClass (top 26) 0
theorem sc_UnknownEntry_init : FnScope ["self", "name"] ["self", "name"] (defScope s_UnknownEntry_init) := ⟨rfl, rfl, rfl, by decide +kernel, rfl, by decide +kernel, by decide +kernel⟩
abbrev s_NameTaken_init : Stmt := inClass (top 27) 0
theorem sc_NameTaken_init : FnScope ["self", "name"] ["self", "name"] (defScope s_NameTaken_init) := ⟨rfl, rfl, rfl, by decide +kernel, rfl, by decide +kernel, by decide +kernel⟩
abbrev s_Overlap_init : Stmt := inClass (top 28) 0
theorem sc_Overlap_init : FnScope ["self", "name"] ["self", "name"] (defScope s_Overlap_init) := ⟨rfl, rfl, rfl, by decide +kernel, rfl, by decide +kernel, by decide +kernel⟩
abbrev s_NotInside_init : Stmt := inClass (top 29) 0
theorem sc_NotInside_init : FnScope ["self", "at"] ["self", "at"] (defScope s_NotInside_init) := ⟨rfl, rfl, rfl, by decide +kernel, rfl, by decide +kernel, by decide +kernel⟩
abbrev s_NotNeighbours_init : Stmt := inClass (top 30) 0
theorem sc_NotNeighbours_init : FnScope ["self", "name"] ["self", "name"] (defScope s_NotNeighbours_init) := ⟨rfl, rfl, rfl, by decide +kernel, rfl, by decide +kernel, by decide +kernel⟩
abbrev s_NoProgram_init : Stmt := inClass (top 31) 0
theorem sc_NoProgram_init : FnScope ["self", "kind"] ["self", "kind"] (defScope s_NoProgram_init) := ⟨rfl, rfl, rfl, by decide +kernel, rfl, by decide +kernel, by decide +kernel⟩
abbrev s_TooMany_init : Stmt := inClass (top 32) 0
theorem sc_TooMany_init : FnScope ["self", "bound"] ["self", "bound"] (defScope s_TooMany_init) := ⟨rfl, rfl, rfl, by decide +kernel, rfl, by decide +kernel, by decide +kernel⟩
abbrev s_Ended_init : Stmt := inClass (top 33) 0
theorem sc_Ended_init : FnScope ["self", "number"] ["self", "number"] (defScope s_Ended_init) := ⟨rfl, rfl, rfl, by decide +kernel, rfl, by decide +kernel, by decide +kernel⟩
abbrev s_Waiting_init : Stmt := inClass (top 34) 0
theorem sc_Waiting_init : FnScope ["self", "number"] ["self", "number"] (defScope s_Waiting_init) := ⟨rfl, rfl, rfl, by decide +kernel, rfl, by decide +kernel, by decide +kernel⟩
abbrev s_law_cell : Stmt := top 41
theorem sc_law_cell : FnScope ["_law_script", "_law_k"] ["_law_script", "_law_k"] (defScope s_law_cell) := ⟨rfl, rfl, rfl, by decide +kernel, rfl, by decide +kernel, by decide +kernel⟩
abbrev s_law_box : Stmt := top 42
theorem sc_law_box : FnScope ["_law_cell_here"] ["_law_cell_here"] (defScope s_law_box) := ⟨rfl, rfl, rfl, by decide +kernel, rfl, by decide +kernel, by decide +kernel⟩
abbrev s_law_take : Stmt := top 43
theorem sc_law_take : FnScope ["_law_box_here", "_law_many", "_law_digit", "_law_number"] ["_law_box_here", "_law_many"] (defScope s_law_take) := ⟨rfl, rfl, rfl, by decide +kernel, rfl, by decide +kernel, by decide +kernel⟩
abbrev s_law_made : Stmt := top 44
theorem sc_law_made : FnScope ["_law_thing", "_law_found"] ["_law_thing"] (defScope s_law_made) := ⟨rfl, rfl, rfl, by decide +kernel, rfl, by decide +kernel, by decide +kernel⟩
abbrev s_law_classes : Stmt := top 45
theorem sc_law_classes : FnScope ["_law_error", "_law_found", "_law_k"] ["_law_error"] (defScope s_law_classes) := ⟨rfl, rfl, rfl, by decide +kernel, rfl, by decide +kernel, by decide +kernel⟩
abbrev s_law_fields : Stmt := top 46
theorem sc_law_fields : FnScope ["_law_made_here", "_law_told"] ["_law_made_here"] (defScope s_law_fields) := ⟨rfl, rfl, rfl, by decide +kernel, rfl, by decide +kernel, by decide +kernel⟩
abbrev s_law_under : Stmt := top 47
theorem sc_law_under : FnScope ["_law_error", "_law_above", "_law_beside"] ["_law_error"] (defScope s_law_under) := ⟨rfl, rfl, rfl, by decide +kernel, rfl, by decide +kernel, by decide +kernel⟩
abbrev s_law : Stmt := top 48
theorem sc_law : FnScope ["_law_script", "_law_k", "_law_box_here", "_law_thing", "_law_made_here", "_law_told", "_law_at", "_law_item"] ["_law_script"] (defScope s_law) := ⟨rfl, rfl, rfl, by decide +kernel, rfl, by decide +kernel, by decide +kernel⟩

/-! ### further rules -/
section
variable {X : Cx}
theorem holdAll_ints {h : Heap} : ∀ {us : List Value} {ns : List Int}, Vals (ns.map V.int) us → PySem.W.HoldAll (α := Int) h us ns
  | _, [], .nil => ⟨_, .nil⟩
  | _, n :: r, .cons ⟨t, e⟩ k => by
    subst e
    obtain ⟨as, q⟩ := holdAll_ints (h := h) k
    exact ⟨_, .cons (.int n t) q⟩
theorem holds_int {h : Heap} {v : Value} {n : Int} (H : PySem.W.Holds (α := Int) h v n) : ∃ t, v = .int n t := by
  obtain ⟨as, r⟩ := H
  cases r
  exact ⟨_, rfl⟩
theorem maxOf_ints : ∀ (ys : List Int) (y : Int), PySem.W.maxOf y ys ∈ y :: ys ∧ ∀ n ∈ y :: ys, n ≤ PySem.W.maxOf y ys := by
  intro ys
  induction ys with
  | nil =>
    intro y
    exact ⟨List.mem_cons_self, fun n hn => by cases List.mem_singleton.mp hn; exact Int.le_refl _⟩
  | cons z r ih =>
    intro y
    have e : PySem.W.maxOf y (z :: r) = PySem.W.maxOf (if y < z then z else y) r := by
      show List.foldl _ (if decide (y < z) = true then z else y) r = _
      simp only [decide_eq_true_eq]
      rfl
    rw [e]
    obtain ⟨h1, h2⟩ := ih (if y < z then z else y)
    have hy := h2 _ List.mem_cons_self
    have hyz : y ≤ (if y < z then z else y) ∧ z ≤ (if y < z then z else y) := by
      split <;> omega
    refine ⟨?_, fun n hn => ?_⟩
    · rcases List.mem_cons.mp h1 with q | q
      · rw [q]
        split <;> simp
      · exact List.mem_cons_of_mem _ (List.mem_cons_of_mem _ q)
    · rcases List.mem_cons.mp hn with rfl | hn
      · omega
      · rcases List.mem_cons.mp hn with rfl | hn
        · omega
        · exact h2 n (List.mem_cons_of_mem _ hn)
theorem minOf_ints : ∀ (ys : List Int) (y : Int), PySem.W.minOf y ys ∈ y :: ys ∧ ∀ n ∈ y :: ys, PySem.W.minOf y ys ≤ n := by
  intro ys
  induction ys with
  | nil =>
    intro y
    exact ⟨List.mem_cons_self, fun n hn => by cases List.mem_singleton.mp hn; exact Int.le_refl _⟩
  | cons z r ih =>
    intro y
    have e : PySem.W.minOf y (z :: r) = PySem.W.minOf (if z < y then z else y) r := by
      show List.foldl _ (if decide (z < y) = true then z else y) r = _
      simp only [decide_eq_true_eq]
      rfl
    rw [e]
    obtain ⟨h1, h2⟩ := ih (if z < y then z else y)
    have hy := h2 _ List.mem_cons_self
    have hyz : (if z < y then z else y) ≤ y ∧ (if z < y then z else y) ≤ z := by
      split <;> omega
    refine ⟨?_, fun n hn => ?_⟩
    · rcases List.mem_cons.mp h1 with q | q
      · rw [q]
        split <;> simp
      · exact List.mem_cons_of_mem _ (List.mem_cons_of_mem _ q)
    · rcases List.mem_cons.mp hn with rfl | hn
      · omega
      · rcases List.mem_cons.mp hn with rfl | hn
        · omega
        · exact h2 n (List.mem_cons_of_mem _ hn)
/-- max(xs, default=d), xs a list of whole numbers -/
def rMaxD (K : PySem.W.Frag) : List V → List V → Hp → VK → Prop := fun xs zs H Q => ∃ (a : Addr) (ns : List Int) (d : V), xs = [.ref a] ∧ zs = [d] ∧ SqL K H a (ns.map V.int) ∧ (ns = [] → Q d H) ∧ ∀ m, m ∈ ns → (∀ n ∈ ns, n ≤ m) → Q (.int m) H
def rMinD (K : PySem.W.Frag) : List V → List V → Hp → VK → Prop := fun xs zs H Q => ∃ (a : Addr) (ns : List Int) (d : V), xs = [.ref a] ∧ zs = [d] ∧ SqL K H a (ns.map V.int) ∧ (ns = [] → Q d H) ∧ ∀ m, m ∈ ns → (∀ n ∈ ns, m ≤ n) → Q (.int m) H
theorem cr_maxD (hc : X.calm = true) (hu : X.A.units + 64 < cLine) : CallRK X (.builtin "max") ["default"] (rMaxD X.K) := by
  intro pins s σ H xs zs us ws Q I rx rz h
  obtain ⟨a, ns, d, rfl, rfl, hS, h0, h1⟩ := h
  obtain ⟨its, rv, pl, _⟩ := I.list hS
  obtain ⟨u, rfl, ru⟩ := vals1 rx
  obtain ⟨dv, rfl, rd⟩ := vals1 rz
  cases ru
  refine PySem.W.max_list_datum_default (α := Int) (xs := ns) (I.ok.hd hc) pl.isList (holdAll_ints (by simpa using rv)) (by show X.A.units + 1 + 0 < cLine; omega) (fun e h' tk k => ⟨d, H, I.kept k, rd, h0 e⟩) fun y ys i v h' tk e hi hh k => ?_
  subst e
  obtain ⟨t, rfl⟩ := holds_int hh
  have m := maxOf_ints ys y
  exact ⟨.int _, H, I.kept k, ⟨t, rfl⟩, h1 _ m.1 m.2⟩
theorem cr_minD (hc : X.calm = true) (hu : X.A.units + 64 < cLine) : CallRK X (.builtin "min") ["default"] (rMinD X.K) := by
  intro pins s σ H xs zs us ws Q I rx rz h
  obtain ⟨a, ns, d, rfl, rfl, hS, h0, h1⟩ := h
  obtain ⟨its, rv, pl, _⟩ := I.list hS
  obtain ⟨u, rfl, ru⟩ := vals1 rx
  obtain ⟨dv, rfl, rd⟩ := vals1 rz
  cases ru
  refine PySem.W.min_list_datum_default (α := Int) (xs := ns) (I.ok.hd hc) pl.isList (holdAll_ints (by simpa using rv)) (by show X.A.units + 1 + 0 < cLine; omega) (fun e h' tk k => ⟨d, H, I.kept k, rd, h0 e⟩) fun y ys i v h' tk e hi hh k => ?_
  subst e
  obtain ⟨t, rfl⟩ := holds_int hh
  have m := minOf_ints ys y
  exact ⟨.int _, H, I.kept k, ⟨t, rfl⟩, h1 _ m.1 m.2⟩
/-- what is surely the same: a flat value, or one object -/
def sureV (v : V) : Bool := flatB v || (match v with | .ref _ => true | _ => false)
theorem sure_eq {A : Around} {s : Shared} {v : V} {u u' : Value} (r : RelV v u) (r' : RelV v u') (f : sureV v = true) : SeqAt.EqAt A s u u' true := by
  cases v with
  | ref a =>
    cases (show u = Value.ref a from r)
    cases (show u' = Value.ref a from r')
    exact SeqAt.EqAt.same _
  | ty n => cases f
  | flt b => cases f
  | _ => exact eqAt_same r r' rfl
/-- two lists of the same items: they are not unlike -/
def rNeS (K : PySem.W.Frag) : R2 := fun x y H Q => ∃ (a b : Addr) (xs : List V), x = .ref a ∧ y = .ref b ∧ SqL K H a xs ∧ SqL K H b xs ∧ xs.all sureV = true ∧ Q (.bl false) H
theorem op_neS (hu : X.A.units + 64 < cLine) : OpR X (compareOp .NotEq) (rNeS X.K) := by
  intro pins s σ H x y v u Q I rx ry h
  obtain ⟨a, b, xs, rfl, rfl, ha, hb, hf, q⟩ := h
  cases (show v = Value.ref a from rx)
  cases (show u = Value.ref b from ry)
  obtain ⟨us, r1, p1, _⟩ := I.list ha
  obtain ⟨ws, r2, p2, _⟩ := I.list hb
  have hl : us.toArray.size = ws.toArray.size := by
    rw [List.size_toArray, List.size_toArray, ← r1.length, ← r2.length]
  refine SeqAt.RcNeAt.lists (e := fun _ => true) p1.isList p2.isList hl (by omega) (fun j h1 h2 => ?_) X.prog X.w _ _ ?_
  · have hj : j < xs.length := by
      rw [r1.length]
      simpa using h1
    obtain ⟨u1, e1, q1⟩ := r1.get (List.getElem?_eq_getElem hj)
    obtain ⟨u2, e2, q2⟩ := r2.get (List.getElem?_eq_getElem hj)
    have k1 : us.toArray[j] = u1 := by
      have := List.getElem?_eq_some_iff.mp e1
      simpa using this.2
    have k2 : ws.toArray[j] = u2 := by
      have := List.getElem?_eq_some_iff.mp e2
      simpa using this.2
    rw [k1, k2]
    exact sure_eq q1 q2 (List.all_eq_true.mp hf _ (List.getElem_mem hj))
  · have ea : ((List.range us.toArray.size).all fun _ => true) = true := List.all_eq_true.mpr fun _ _ => rfl
    rw [ea]
    exact ⟨.bl false, H, I, rfl, q⟩
end
/-- the drawing box at p: three ints, drawn n times at most -/
def BoxAt (H : Hp) (p : Addr) (n : Nat) : Prop := ∃ d s c : Int, H p = some (.lst [.int d, .int s, .int c]) ∧ 0 ≤ d ∧ 0 ≤ s ∧ s < 2147483629 ∧ 0 ≤ c ∧ c ≤ n
/-- H0: all that is known beside the box -/
structure BoxIn (H0 H : Hp) (p : Addr) (n : Nat) : Prop where
  same : Same H0 H
  free : H0 p = none
  box : BoxAt H p n
theorem BoxAt.mono {H : Hp} {p : Addr} {n m : Nat} (b : BoxAt H p n) (h : n ≤ m) : BoxAt H p m := by
  obtain ⟨d, s, c, h1, h2, h3, h4, h5, h6⟩ := b
  exact ⟨d, s, c, h1, h2, h3, h4, h5, by omega⟩
theorem BoxIn.mono {H0 H : Hp} {p : Addr} {n m : Nat} (b : BoxIn H0 H p n) (h : n ≤ m) : BoxIn H0 H p m := ⟨b.same, b.free, b.box.mono h⟩
/-- a pure step behind it -/
theorem BoxIn.keep {H0 H H' : Hp} {p : Addr} {n : Nat} (b : BoxIn H0 H p n) (s : Same H H') : BoxIn H0 H' p n := by
  obtain ⟨d, s', c, h1, h⟩ := b.box
  exact ⟨b.same.trans s, b.free, d, s', c, s _ _ h1, h⟩
/-- a new object becomes known -/
theorem BoxIn.new {H0 H : Hp} {p q : Addr} {n : Nat} {o : HO} (b : BoxIn H0 H p n) (hq : H q = none) : BoxIn (upd H0 q o) (upd H q o) p n ∧ Same H0 (upd H0 q o) := by
  obtain ⟨d, s', c, h1, h⟩ := b.box
  have npq : p ≠ q := ne_of_none h1 hq
  refine ⟨⟨fun x u e => ?_, by rw [upd_ne npq]; exact b.free, d, s', c, by rw [upd_ne npq]; exact h1, h⟩, fun x u e => ?_⟩
  · by_cases hx : x = q
    · subst hx
      rw [upd_same] at e ⊢
      exact e
    · rw [upd_ne hx] at e ⊢
      exact b.same _ _ e
  · rw [upd_ne (ne_of_none e (b.same.free hq))]
    exact e
/-- all that is tracked now, the box aside, is known -/
def but (H : Hp) (p : Addr) : Hp := fun q => if q = p then none else H q
theorem but_same {H : Hp} {p : Addr} : but H p p = none := by unfold but; rw [if_pos rfl]
theorem but_ne {H : Hp} {p q : Addr} (h : q ≠ p) : but H p q = H q := by unfold but; rw [if_neg h]
theorem BoxIn.all {H0 H : Hp} {p : Addr} {n : Nat} (b : BoxIn H0 H p n) : BoxIn (but H p) H p n ∧ Same H0 (but H p) := by
  refine ⟨⟨fun x u e => ?_, but_same, b.box⟩, fun x u e => ?_⟩
  · by_cases hx : x = p
    · subst hx
      rw [but_same] at e
      cases e
    · rw [but_ne hx] at e
      exact e
  · have hx : x ≠ p := fun q => by
      rw [q, b.free] at e
      cases e
    rw [but_ne hx]
    exact b.same _ _ e

def sp_law_cell (K : PySem.W.Frag) : Sp := fun vs H Q _ => ∃ (a : Addr) (ns : List Int) (k : Int), vs = [.ref a, .int k] ∧ SqL K H a (ns.map V.int) ∧ 0 ≤ k ∧ ∀ z, Q (.int z) H
def sp_law_box : Sp := fun vs H Q _ => ∃ z : Int, vs = [.int z] ∧ ∀ p o, H p = none → BoxAt (upd H p o) p 0 → Q (.ref p) (upd H p o)
def sp_law_take : Sp := fun vs H Q _ => ∃ (H0 : Hp) (p : Addr) (n : Nat) (m : Int), vs = [.ref p, .int m] ∧ BoxIn H0 H p n ∧ n < 1000000 ∧ 0 < m ∧ m < 1000000 ∧
  ∀ (z : Int) (H' : Hp), 0 ≤ z → z < m → BoxIn H0 H' p (n + 1) → Q (.int z) H'
/-- what the law's promise is: a list of at most 63 ints is handed in, True comes out -/
def sp_law (K : PySem.W.Frag) : Sp := fun vs H Q _ => ∃ (a : Addr) (ns : List Int), vs = [.ref a] ∧ SqL K H a (ns.map V.int) ∧ ns.length ≤ 63 ∧ ∀ H', Q (.bl true) H'
/-! ### values as data -/
theorem same_t {K : PySem.W.Frag} {H H' : Hp} {a : Addr} {xs : List V} (e : Same H H') (h : SqT K H a xs) : SqT K H' a xs := by
  rcases h with (h | ⟨o, h⟩) | h
  · exact .inl (.inl (e _ _ h))
  · exact .inl (.inr ⟨o, e _ _ h⟩)
  · exact .inr h
mutual
theorem dp_mono {K : PySem.W.Frag} {H H' : Hp} (e : Same H H') : ∀ {v : V} {d : PyData}, Dp K H v d → Dp K H' v d
  | _, _, .non => .non
  | _, _, .bl b => .bl b
  | _, _, .int i => .int i
  | _, _, .str x => .str x
  | _, _, .lst h a => .lst (e.seq h) (dpAll_mono e a)
  | _, _, .tup h a => .tup (same_t e h) (dpAll_mono e a)
theorem dpAll_mono {K : PySem.W.Frag} {H H' : Hp} (e : Same H H') : ∀ {vs : List V} {ds : List PyData}, DpAll K H vs ds → DpAll K H' vs ds
  | _, _, .nil => .nil
  | _, _, .cons a b => .cons (dp_mono e a) (dpAll_mono e b)
end
theorem dpAll_get {K : PySem.W.Frag} {H : Hp} : ∀ {vs : List V} {ds : List PyData} {i : Nat} {v : V}, DpAll K H vs ds → vs[i]? = some v → ∃ d, ds[i]? = some d ∧ Dp K H v d
  | _, _, 0, _, .cons a _, h => ⟨_, rfl, by cases h; exact a⟩
  | _, _, i + 1, _, .cons _ b, h => dpAll_get (i := i) b h
theorem dpAll_len {K : PySem.W.Frag} {H : Hp} : ∀ {vs : List V} {ds : List PyData}, DpAll K H vs ds → vs.length = ds.length
  | _, _, .nil => rfl
  | _, _, .cons _ b => congrArg (· + 1) (dpAll_len b)
theorem dpAll_strs {K : PySem.W.Frag} {H : Hp} : ∀ ss : List Str, DpAll K H (ss.map V.str) (ss.map PyData.str)
  | [] => .nil
  | s :: r => .cons (.str s) (dpAll_strs r)
theorem dpAll_bls {K : PySem.W.Frag} {H : Hp} : ∀ bs : List Bool, DpAll K H (bs.map V.bl) (bs.map PyData.bool)
  | [] => .nil
  | b :: r => .cons (.bl b) (dpAll_bls r)
theorem eqv_nil (ds : List PyData) : PyData.eqv (.list ds) (.list []) = ds.isEmpty := by
  cases ds with
  | nil => simp [PyData.eqv, PyData.eqvAll]
  | cons d r => simp [PyData.eqv, PyData.eqvAll]
theorem shaped_nil : SeqAt.shaped (.list []) = true := by decide +kernel
theorem canAll_mem {ds : List PyData} : PyData.canLayAll0 ds = true ↔ ∀ d ∈ ds, d.canLay0 = true := by
  induction ds with
  | nil => simp [PyData.canLayAll0]
  | cons d r ih => simp [PyData.canLayAll0, ih]
theorem depthAll_le {ds : List PyData} {n : Nat} (h : ∀ d ∈ ds, d.depth ≤ n) : PyData.depthAll ds ≤ n := by
  induction ds with
  | nil => simp [PyData.depthAll]
  | cons d r ih =>
    have h1 := h d (List.mem_cons_self)
    have h2 := ih fun x hx => h x (List.mem_cons_of_mem _ hx)
    simp only [PyData.depthAll]
    omega
theorem depthAll_mem {ds : List PyData} {d : PyData} (h : d ∈ ds) : d.depth ≤ PyData.depthAll ds := by
  induction ds with
  | nil => cases h
  | cons e r ih =>
    simp only [PyData.depthAll]
    rcases List.mem_cons.mp h with rfl | h
    · omega
    · have := ih h
      omega
theorem shaped_iff {d : PyData} : SeqAt.shaped d = true ↔ d.canLay0 = true ∧ d.depth ≤ 64 := by
  unfold SeqAt.shaped
  rw [Bool.and_eq_true, decide_eq_true_iff]
/-- a list of data that are d deep at most -/
theorem shaped_list {ds : List PyData} {n : Nat} (hn : n < 64) (h : ∀ d ∈ ds, d.canLay0 = true ∧ d.depth ≤ n) : SeqAt.shaped (.list ds) = true := by
  refine shaped_iff.mpr ⟨?_, ?_⟩
  · simp only [PyData.canLay0]
    exact canAll_mem.mpr fun d hd => (h d hd).1
  · have := depthAll_le fun d hd => (h d hd).2
    simp only [PyData.depth]
    omega
theorem shaped_of_tuple {ds : List PyData} (h : SeqAt.shaped (.tuple ds) = true) {d : PyData} (hd : d ∈ ds) : d.canLay0 = true ∧ d.depth ≤ 63 := by
  obtain ⟨h1, h2⟩ := shaped_iff.mp h
  simp only [PyData.canLay0] at h1
  simp only [PyData.depth] at h2
  have := depthAll_mem hd
  exact ⟨canAll_mem.mp h1 d hd, by omega⟩
/-- a value and what it is: data of any depth, or a dict (none) -/
inductive VD (K : PySem.W.Frag) (H : Hp) : V → Option PyData → Prop where
  | dat {v : V} {d : PyData} : Dp K H v d → SeqAt.shaped d = true → (∀ s, d = .str s → s.length ≤ 1000) → VD K H v (some d)
  | dic {a : Addr} {kvs : List (Key × V)} : H a = some (.dK kvs) → VD K H (.ref a) none
theorem VD.mono {K : PySem.W.Frag} {H H' : Hp} (e : Same H H') {v : V} {o : Option PyData} (h : VD K H v o) : VD K H' v o := by
  cases h with
  | dat a b c => exact .dat (dp_mono e a) b c
  | dic a => exact .dic (e _ _ a)
def tyD : PyData → String
  | .none => "NoneType" | .bool _ => "bool" | .int _ => "int" | .str _ => "str" | .list _ => "list" | .tuple _ => "tuple" | .dict _ => "dict"
def tyO : Option PyData → String
  | none => "dict"
  | some d => tyD d
theorem dp_ty {K : PySem.W.Frag} {H : Hp} {v : V} {d : PyData} (h : Dp K H v d) : TyX K H v (.type (tyD d)) := by
  cases h with
  | non => exact .base .non
  | bl b => exact .base (.bl b)
  | int i => exact .base (.int i)
  | str x => exact .base (.str x)
  | lst h _ =>
    rcases h with (h | ⟨o, h⟩) | ⟨o, its, n, h, c, _⟩
    · exact .base (.lst h)
    · exact .base (.frz h)
    · exact .kList h c
  | tup h _ =>
    rcases h with (h | ⟨o, h⟩) | ⟨o, its, n, h, c, _⟩
    · exact .base (.tup h)
    · exact .fTuple h
    · exact .kTuple h c
theorem VD.ty {K : PySem.W.Frag} {H : Hp} {v : V} {o : Option PyData} (h : VD K H v o) : TyX K H v (.type (tyO o)) := by
  cases h with
  | dat a _ _ => exact dp_ty a
  | dic a => exact .base (.dK a)
def isT (T : String) (o : Option PyData) : Bool := tyO o == T || (T == "int" && tyO o == "bool")
theorem tyO_mem (o : Option PyData) : tyO o = "NoneType" ∨ tyO o = "bool" ∨ tyO o = "int" ∨ tyO o = "str" ∨ tyO o = "list" ∨ tyO o = "tuple" ∨ tyO o = "dict" := by
  rcases o with _ | d
  · simp [tyO]
  · cases d <;> simp [tyO, tyD]
theorem kit_o {K : PySem.W.Frag} (o : Option PyData) {T : String} (hT : T = "int" ∨ T = "bool" ∨ T = "str" ∨ T = "tuple") : PySem.W.kitOne K (.type (tyO o)) (.type T) = some (isT T o) := by
  have h := tyO_mem o
  unfold isT
  generalize tyO o = nm at h ⊢
  rcases hT with rfl | rfl | rfl | rfl
  all_goals
    rcases h with rfl | rfl | rfl | rfl | rfl | rfl | rfl
    all_goals exact kit_ty (by decide +kernel)
def nonO : Option PyData → Bool
  | some .none => true
  | _ => false
theorem vd_non {K : PySem.W.Frag} {H : Hp} {v : V} {o : Option PyData} (h : VD K H v o) : decide (v = .non) = nonO o := by
  cases h with
  | dat a _ _ => cases a <;> rfl
  | dic a => rfl
theorem iteFe {c : Bool} {A B : Prop} (h : c = false) (q : B) : if c = true then A else B := by
  subst h
  exact iteF q
theorem iteTe {c : Bool} {A B : Prop} (h : c = true) (q : A) : if c = true then A else B := by
  subst h
  exact iteT q
theorem tyes {te : TE} {σ : L2.St} {H : Hp} {R : V → Hp → Prop} {S : Hp → Prop} (h : te σ H R) : tYes σ H (fun b H3 => if b = true then te σ H3 R else S H3) := by
  show (if true = true then te σ H R else S H)
  exact iteT h
/-! ### comprehensions that change nothing: acc i is what is made behind i turns -/
theorem lc_acc {J : It} {n : Nat} {G : Hp → Prop} {item : Nat → V → Prop} {g : TG} {tt : TT} {te : TE} {vs : List Nat} {σ : L2.St} {H1 : Hp} {D : Addr} {Qd : Hp → Prop} (w : Walk J n G (fun i H x H' => H' = H ∧ item i x)) (hD : H1 D = none) (hG : ∀ H, Same H1 H → G H) (acc : Nat → List V) (h0 : acc 0 = []) (hz : ∀ i, i < n → (acc i).length < sizeLine)
    (hs : ∀ (i : Nat) (x : V) (H : Hp), i < n → item i x → Same H1 H → ∀ (R : V → Hp → Prop) (S : Hp → Prop), (∀ y H4, acc (i + 1) = acc i ++ [y] → Same H H4 → R y H4) → (∀ H3, acc (i + 1) = acc i → Same H H3 → S H3) →
      g x (wipe σ vs) H fun σ2 H2 => wipe σ2 vs = wipe σ vs ∧ tt σ2 H2 fun b H3 => if b = true then te σ2 H3 R else S H3)
    (hd : ∀ H, Same H1 H → H D = some (.lst (acc n)) → Qd H) : ∃ W : Nat → Nat → Hp → Prop, (∃ m, W 0 m (upd H1 D (.lst []))) ∧ ∀ i m H, W i m H →
      (J.stop i H ∧ Qd H) ∨ (J.go i H ∧ ∃ Nx : Hp → Prop, (∀ H', Nx H' → ∃ m', m' < m ∧ W (i + 1) m' H') ∧ ∀ x H', J.yld i H x H' → g x (wipe σ vs) H' fun σ2 H2 => wipe σ2 vs = wipe σ vs ∧ tt σ2 H2 fun b H3 =>
        if b = true then te σ2 H3 fun y H4 => ∃ acc, H4 D = some (.lst acc) ∧ acc.length < sizeLine ∧ Nx (upd H4 D (.lst (acc ++ [y]))) else Nx H3) := by
  refine lc_it w (fun i H => Same H1 H ∧ H D = some (.lst (acc i))) ⟨fun b o e => ?_, ?_⟩ (fun i H _ p => hG H p.1) ?_ (fun H p => hd H p.1 p.2)
  · rw [upd_ne (ne_of_none e hD)]
    exact e
  · rw [upd_same, h0]
  · rintro i x H H' hi ⟨s1, hl⟩ ⟨rfl, hx⟩
    refine hs i x _ hi hx s1 _ _ (fun y H4 e s2 => ⟨acc i, s2 _ _ hl, hz i hi, ⟨fun b o eb => ?_, by rw [upd_same, e]⟩⟩) (fun H3 e s2 => ⟨s1.trans s2, by rw [e]; exact s2 _ _ hl⟩)
    rw [upd_ne (ne_of_none eb hD)]
    exact s2 _ _ (s1 _ _ eb)
/-! ### texts and their bounds -/
theorem same_new {H : Hp} {q : Addr} {o : HO} (h : H q = none) : Same H (upd H q o) := fun b u e => by
  rw [upd_ne (ne_of_none e h)]
  exact e
/-- at most n signs, all of them signs -/
def sOk (n : Nat) (s : Str) : Prop := s.length ≤ n ∧ PyData.strOk s = true
theorem strOk_iff {s : Str} : PyData.strOk s = true ↔ ∀ c ∈ s.cps.toList, c < 0x110000 := by
  unfold PyData.strOk
  rw [Array.all_eq_true']
  constructor
  · intro h c hc
    exact of_decide_eq_true (h c (by simpa using hc))
  · intro h c hc
    exact decide_eq_true (h c (by simpa using hc))
theorem sOk.mono {n m : Nat} {s : Str} (h : sOk n s) (e : n ≤ m) : sOk m s := ⟨Nat.le_trans h.1 e, h.2⟩
theorem sOk.app {n m : Nat} {a b : Str} (h : sOk n a) (k : sOk m b) : sOk (n + m) (a ++ b) := by
  refine ⟨?_, strOk_iff.mpr fun c hc => ?_⟩
  · rw [Str.length_append]
    exact Nat.add_le_add h.1 k.1
  · rw [Str.cps_append, Array.toList_append] at hc
    rcases List.mem_append.mp hc with q | q
    · exact strOk_iff.mp h.2 c q
    · exact strOk_iff.mp k.2 c q
theorem sOk.cut {n : Nat} {a : Str} (h : sOk n a) (lo hi : Option Int) : sOk n (cutS a lo hi) := by
  refine ⟨Nat.le_trans (cutS_length _ _ _) h.1, strOk_iff.mpr fun c hc => ?_⟩
  unfold cutS at hc
  have hc' : c ∈ a.cps.toList := List.mem_of_mem_drop (List.mem_of_mem_take (by simpa using hc))
  exact strOk_iff.mp h.2 c hc'
theorem joinL_nil : ∀ ps : List (List Nat), TL.joinL [] ps = ps.flatten
  | [] => rfl
  | [p] => by simp [TL.joinL]
  | p :: q :: r => by
    have ih := joinL_nil (q :: r)
    simp only [TL.joinL, ih]
    simp
theorem flat_len : ∀ (ys : List Str) (n : Nat), (∀ y ∈ ys, y.length ≤ n) → ((ys.map TL.tl).flatten).length ≤ ys.length * n
  | [], _, _ => by simp
  | y :: r, n, h => by
    have ih := flat_len r n fun z hz => h z (List.mem_cons_of_mem _ hz)
    have h1 : y.length ≤ n := h y List.mem_cons_self
    have h2 : (TL.tl y).length = y.length := by simp [TL.tl, Str.length]
    simp only [List.map_cons, List.flatten_cons, List.length_append, List.length_cons, Nat.add_mul, Nat.one_mul]
    omega
theorem join_ok {ys : List Str} {n : Nat} (h : ∀ y ∈ ys, sOk n y) : sOk (ys.length * n) (Txt.join Str.empty ys) := by
  have e : TL.tl (Txt.join Str.empty ys) = (ys.map TL.tl).flatten := by
    rw [TL.join_eq, TL.tl_join]
    exact joinL_nil _
  refine ⟨?_, strOk_iff.mpr fun c hc => ?_⟩
  · have h1 : (Txt.join Str.empty ys).length = (TL.tl (Txt.join Str.empty ys)).length := by simp [TL.tl, Str.length]
    rw [h1, e]
    exact flat_len ys n fun y hy => (h y hy).1
  · have hc' : c ∈ TL.tl (Txt.join Str.empty ys) := hc
    rw [e] at hc'
    obtain ⟨l, hl, hcl⟩ := List.mem_flatten.mp hc'
    obtain ⟨y, hy, rfl⟩ := List.mem_map.mp hl
    exact strOk_iff.mp (h y hy).2 c hcl
theorem sum_le : ∀ (ys : List Str) (n : Nat), (∀ y ∈ ys, y.length ≤ n) → (ys.map (·.length)).sum ≤ ys.length * n
  | [], _, _ => by simp
  | y :: r, n, h => by
    have ih := sum_le r n fun z hz => h z (List.mem_cons_of_mem _ hz)
    have h1 : y.length ≤ n := h y List.mem_cons_self
    simp only [List.map_cons, List.sum_cons, List.length_cons, Nat.add_mul, Nat.one_mul]
    omega
/-- an item at an open place within -/
theorem atI_in {α : Type} {xs : List α} {z : Int} (h0 : 0 ≤ z) (h1 : z < xs.length) : ∃ v, atI xs z = some v ∧ v ∈ xs := by
  obtain ⟨j, rfl⟩ := Int.eq_ofNat_of_zero_le h0
  have hj : j < xs.length := by omega
  exact ⟨xs[j], atI_nat (List.getElem?_eq_getElem hj), List.getElem_mem hj⟩
theorem op_mul_str {X : Cx} : OpR X (binaryOp .Mult) (fun x y H Q => ∃ z n, x = .str z ∧ y = .int n ∧ MulOk z n ∧ Q (.str (Txt.mul z n)) H) := by
  intro pins s σ H x y v u Q I rx ry h
  obtain ⟨z, n, rfl, rfl, hz, q⟩ := h
  obtain ⟨t, rfl⟩ := rx
  obtain ⟨t', rfl⟩ := ry
  exact SB.mul hz fun t' tk => ⟨.str (Txt.mul z n), H, I.tok _, ⟨_, rfl⟩, q⟩
theorem BoxIn.low {H0 H1 H : Hp} {p : Addr} {n : Nat} (b : BoxIn H1 H p n) (s : Same H0 H1) : BoxIn H0 H p n := ⟨s.trans b.same, s.free b.free, b.box⟩
theorem BoxIn.mut {H0 H : Hp} {p D : Addr} {n : Nat} {o : HO} (b : BoxIn H0 H p n) (h1 : D ≠ p) (h2 : H0 D = none) : BoxIn H0 (upd H D o) p n := by
  obtain ⟨d, s', c, h, hh⟩ := b.box
  refine ⟨fun x u e => ?_, b.free, d, s', c, by rw [upd_ne h1.symm]; exact h, hh⟩
  rw [upd_ne (ne_of_none e h2)]
  exact b.same _ _ e
/-- what a def draws: Good of the value, with what is known then -/
def sp_draw (c : Nat) (Good : Hp → V → Prop) : Sp := fun vs H Q _ => ∃ (H0 : Hp) (p : Addr) (n : Nat), vs = [.ref p] ∧ BoxIn H0 H p n ∧ n + c < 1000000 ∧ ∀ (H1 H' : Hp) (v : V), Same H0 H1 → BoxIn H1 H' p (n + c) → Good H1 v → Q v H'
/-! ### the mirror -/
def intO (o : Option PyData) : Bool := isT "int" o && !isT "bool" o
def limO (o : Option PyData) : Bool := nonO o || intO o
def okSign (c : Nat) : Bool := !decide (([c] : List Nat) < [97]) && !decide (([122] : List Nat) < [c])
def nameS (s : Str) : Bool := !(s == ("table" : Str)) && (decide ((1 : Int) ≤ s.length) && (decide ((s.length : Int) ≤ 8) && s.cps.toList.all okSign))
def nameO : Option PyData → Bool
  | some (.str s) => nameS s
  | _ => false
def ltO : PyData → PyData → Bool
  | .int i, .int j => decide (i < j)
  | _, _ => true
def spanO : Option PyData → Bool
  | some (.tuple [l, h]) => limO (some l) && (limO (some h) && ltO l h)
  | _ => false
theorem spanO_no {ds : List PyData} (h : ds.length ≠ 2) : spanO (some (.tuple ds)) = false := by
  match ds, h with
  | [], _ => rfl
  | [_], _ => rfl
  | [_, _], hl => exact absurd rfl hl
  | _ :: _ :: _ :: _, _ => rfl
theorem dp_two {K : PySem.W.Frag} {H : Hp} {xs : List V} {ds : List PyData} (h : DpAll K H xs ds) (e : xs.length = 2) : ∃ x y d e, xs = [x, y] ∧ ds = [d, e] ∧ Dp K H x d ∧ Dp K H y e := by
  match xs, ds, h, e with
  | [x, y], [d, e], .cons h1 (.cons h2 .nil), _ => exact ⟨x, y, d, e, rfl, rfl, h1, h2⟩
theorem spanO_ty {o : Option PyData} (e : isT "tuple" o = false) : spanO o = false := by
  rcases o with _ | d
  · rfl
  · cases d with
    | tuple s => cases e
    | _ => rfl
theorem nameO_no {o : Option PyData} (e : isT "str" o = false) : nameO o = false := by
  rcases o with _ | d
  · rfl
  · cases d with
    | str s => cases e
    | _ => rfl
theorem VD.str_of {K : PySem.W.Frag} {H : Hp} {v : V} {o : Option PyData} (hv : VD K H v o) (e : isT "str" o = true) : ∃ s, v = .str s ∧ o = some (.str s) ∧ s.length ≤ 1000 ∧ PyData.strOk s = true := by
  cases hv with
  | dat a b c =>
    cases a with
    | str s =>
      have := (shaped_iff.mp b).1
      simp only [PyData.canLay0] at this
      exact ⟨s, rfl, rfl, c s rfl, this⟩
    | _ => cases e
  | dic a => cases e
theorem VD.tup_of {K : PySem.W.Frag} {H : Hp} {v : V} {o : Option PyData} (hv : VD K H v o) (e : isT "tuple" o = true) : ∃ a xs ds, v = .ref a ∧ o = some (.tuple ds) ∧ SqT K H a xs ∧ DpAll K H xs ds ∧ SeqAt.shaped (.tuple ds) = true := by
  cases hv with
  | dat a b c =>
    cases a with
    | tup h1 h2 => exact ⟨_, _, _, rfl, rfl, h1, h2, b⟩
    | _ => cases e
  | dic a => cases e
theorem strOk_mem {s : Str} (h : PyData.strOk s = true) {c : Nat} (hc : c ∈ s.cps.toList) : c < 0x110000 := by
  unfold PyData.strOk at h
  rw [Array.all_eq_true'] at h
  exact of_decide_eq_true (h c (by simpa using hc))
theorem strOk_sign {c : Nat} (h : c < 0x110000) : PyData.strOk ⟨#[c]⟩ = true := by
  unfold PyData.strOk
  simp
  omega
/-- the values that are no limits -/
def filt : List V → List PyData → List V
  | x :: xs, d :: ds => if limO (some d) = true then filt xs ds else x :: filt xs ds
  | _, _ => []
theorem filt_len : ∀ (xs : List V) (ds : List PyData), (filt xs ds).length ≤ xs.length
  | [], _ => by simp [filt]
  | _ :: _, [] => by simp [filt]
  | x :: xs, d :: ds => by
    have ih := filt_len xs ds
    simp only [filt]
    split
    · simp only [List.length_cons]
      omega
    · simp only [List.length_cons]
      omega
theorem filt_step : ∀ {xs : List V} {ds : List PyData} {i : Nat} {x : V} {d : PyData}, xs[i]? = some x → ds[i]? = some d → filt (xs.take (i + 1)) (ds.take (i + 1)) = if limO (some d) = true then filt (xs.take i) (ds.take i) else filt (xs.take i) (ds.take i) ++ [x]
  | [], _, _, _, _, h, _ => by simp at h
  | _ :: _, [], _, _, _, _, h => by simp at h
  | y :: ys, e :: es, 0, x, d, h1, h2 => by
    cases h1
    cases h2
    simp [filt]
  | y :: ys, e :: es, i + 1, x, d, h1, h2 => by
    have ih := filt_step (xs := ys) (ds := es) (i := i) (x := x) (d := d) (by simpa using h1) (by simpa using h2)
    simp only [List.take_succ_cons, filt, ih]
    split <;> split <;> simp
theorem filt_dp {K : PySem.W.Frag} {H : Hp} : ∀ {xs : List V} {ds : List PyData}, DpAll K H xs ds → DpAll K H (filt xs ds) (ds.filter fun d => !limO (some d))
  | _, _, .nil => by simp [filt]; exact .nil
  | _, _, .cons (v := v) (d := d) a b => by
    have ih := filt_dp b
    simp only [filt]
    cases h : limO (some d) with
    | true =>
      simp [h]
      exact ih
    | false =>
      simp [h]
      exact .cons a ih
theorem okSign_is (c : Nat) : okSign c = decide (c ∈ ("abcdefghijklmnopqrstuvwxyz" : Str).cps.toList) := by
  have e : ("abcdefghijklmnopqrstuvwxyz" : Str).cps.toList = [97, 98, 99, 100, 101, 102, 103, 104, 105, 106, 107, 108, 109, 110, 111, 112, 113, 114, 115, 116, 117, 118, 119, 120, 121, 122] := by decide +kernel
  rw [e]
  unfold okSign
  rw [Bool.eq_iff_iff, Bool.and_eq_true, decide_eq_true_iff, Bool.not_eq_true', Bool.not_eq_true', decide_eq_false_iff_not, decide_eq_false_iff_not]
  simp only [List.cons_lt_cons_iff, List.not_lt_nil, and_false, or_false, List.mem_cons, List.not_mem_nil]
  omega
def sp_v1 (K : PySem.W.Frag) (f : Option PyData → Bool) : Sp := fun vs H Q _ => ∃ (v : V) (o : Option PyData), vs = [v] ∧ VD K H v o ∧ ∀ H', Same H H' → Q (.bl (f o)) H'
/-- the same without a word on the heap: nothing is made -/
def sp_v0 (K : PySem.W.Frag) (f : Option PyData → Bool) : Sp := fun vs H Q _ => ∃ (v : V) (d : PyData), vs = [v] ∧ Dp K H v d ∧ Q (.bl (f (some d))) H
def sp_vO (K : PySem.W.Frag) (f : Option PyData → Bool) : Sp := fun vs H Q _ => ∃ (v : V) (o : Option PyData), vs = [v] ∧ TyX K H v (.type (tyO o)) ∧ decide (v = .non) = nonO o ∧ Q (.bl (f o)) H
theorem dp_vO {K : PySem.W.Frag} {H : Hp} {v : V} {d : PyData} (h : Dp K H v d) : TyX K H v (.type (tyO (some d))) ∧ decide (v = .non) = nonO (some d) := by
  refine ⟨dp_ty h, ?_⟩
  cases h <;> rfl
theorem vd_vO {K : PySem.W.Frag} {H : Hp} {v : V} {o : Option PyData} (h : VD K H v o) : TyX K H v (.type (tyO o)) ∧ decide (v = .non) = nonO o := ⟨h.ty, vd_non h⟩
/-! ### spans as two limits -/
abbrev Span := Option Int × Option Int
def limV : Option Int → V
  | none => .non
  | some i => .int i
def limD : Option Int → PyData
  | none => .none
  | some i => .int i
def okS : Span → Bool
  | (some l, some h) => decide (l < h)
  | _ => true
def spD (s : Span) : PyData := .tuple [limD s.1, limD s.2]
def spV (s : Span) : List V := [limV s.1, limV s.2]
def loB (l : Option Int) (k : Int) : Bool := match l with | none => true | some i => decide (i ≤ k)
def hiB (h : Option Int) (k : Int) : Bool := match h with | none => true | some i => decide (k < i)
def inS (s : Span) (k : Int) : Bool := loB s.1 k && hiB s.2 k
def maxO : Option Int → Option Int → Option Int
  | none, b => b
  | a, none => a
  | some a, some b => some (max a b)
def minO : Option Int → Option Int → Option Int
  | none, b => b
  | a, none => a
  | some a, some b => some (min a b)
def comS (s t : Span) : Span := (maxO s.1 t.1, minO s.2 t.2)
theorem spanO_ok (s : Span) : spanO (some (spD s)) = okS s := by
  obtain ⟨l, h⟩ := s
  cases l <;> cases h <;> rfl
theorem limO_of {d : PyData} (h : limO (some d) = true) : ∃ l, d = limD l := by
  cases d with
  | none => exact ⟨none, rfl⟩
  | int i => exact ⟨some i, rfl⟩
  | _ => cases h
theorem spanO_of {o : Option PyData} (h : spanO o = true) : ∃ s, o = some (spD s) ∧ okS s = true := by
  rcases o with _ | d
  · cases h
  · cases d with
    | tuple ds =>
      by_cases e : ds.length = 2
      · match ds, e with
        | [a, b], _ =>
          have h' : (limO (some a) && (limO (some b) && ltO a b)) = true := h
          rw [Bool.and_eq_true, Bool.and_eq_true] at h'
          obtain ⟨l, rfl⟩ := limO_of h'.1
          obtain ⟨u, rfl⟩ := limO_of h'.2.1
          exact ⟨(l, u), rfl, (spanO_ok (l, u)).symm.trans h⟩
      · rw [spanO_no e] at h
        cases h
    | _ => cases h
theorem dp_lim {K : PySem.W.Frag} {H : Hp} (l : Option Int) : Dp K H (limV l) (limD l) := by
  cases l with
  | none => exact .non
  | some i => exact .int i
theorem limD_inj {l u : Option Int} (h : limD l = limD u) : l = u := by
  cases l <;> cases u <;> cases h <;> rfl
theorem lim_of_dp {K : PySem.W.Frag} {H : Hp} {v : V} {l : Option Int} (h : Dp K H v (limD l)) : v = limV l := by
  cases l with
  | none => cases h; rfl
  | some i => cases h; rfl
theorem dpAll_spV {K : PySem.W.Frag} {H : Hp} (s : Span) : DpAll K H (spV s) [limD s.1, limD s.2] := .cons (dp_lim _) (.cons (dp_lim _) .nil)
theorem shaped_sp (s : Span) : SeqAt.shaped (spD s) = true := by
  obtain ⟨l, h⟩ := s
  cases l <;> cases h <;> rfl
theorem vd_sp {K : PySem.W.Frag} {H : Hp} {a : Addr} {s : Span} (h : SqT K H a (spV s)) : VD K H (.ref a) (some (spD s)) := .dat (.tup h (dpAll_spV s)) (shaped_sp s) fun x e => by cases e
theorem VD.sp {K : PySem.W.Frag} {H : Hp} {v : V} {s : Span} (h : VD K H v (some (spD s))) : ∃ a, v = .ref a ∧ SqT K H a (spV s) := by
  cases h with
  | dat d _ _ =>
    cases d with
    | tup h1 h2 =>
      cases h2 with
      | cons a b =>
        cases b with
        | cons c e =>
          cases e
          rw [lim_of_dp a, lim_of_dp c] at h1
          exact ⟨_, rfl, h1⟩
theorem intO_of {K : PySem.W.Frag} {H : Hp} {v : V} {o : Option PyData} (h : VD K H v o) (e : intO o = true) : ∃ i, v = .int i ∧ o = some (.int i) := by
  cases h with
  | dat a _ _ =>
    cases a with
    | int i => exact ⟨i, rfl, rfl⟩
    | _ => cases e
  | dic a => cases e
/-! ### what is raised -/
/-- an exception of the class at C leaves, with v as its field f -/
def Rz (H : Hp) (E : XK) (C : Addr) (f : Str) (v : V) : Prop := ∀ (d : Addr) (H' : Hp), H d = none → H' d = some (.xd [(f, v)]) → Same H H' → E (.ref C) (some d) H'
theorem Rz.back {H H1 : Hp} {E : XK} {C : Addr} {f : Str} {v : V} (s : Same H H1) (h : Rz H E C f v) : Rz H1 E C f v := fun d H' n x k => h d H' (s.free n) x (s.trans k)
/-- X.__init__: the one field -/
def sp_xinit (K : PySem.W.Frag) (C : Addr) (f : Str) : Sp := fun vs H Q _ => ∃ (a : Addr) (v : V), vs = [.ref a, v] ∧ OexC K C ∧ PySem.W.findIn K (.ref C) f = some none ∧ H a = some (exo a C none) ∧ ∀ dx, H dx = none → dx ≠ a → Q .non (upd (upd H dx (exd dx [(f, v)])) a (exo a C (some dx)))
/-- the reading of «raise X(v)» -/
theorem raise_x {K : PySem.W.Frag} {H : Hp} {E : XK} {C : Addr} {f : Str} {v : V} (x : OexC K C) (n : PySem.W.findIn K (.ref C) f = some none) (h : Rz H E C f v) : ([v] : List V).length ≤ 1000 ∧ ∀ a, H a = none → sp_xinit K C f (.ref a :: ([v] ++ [])) (upd H a (exo a C none))
    (fun v' H2 => v' = .non ∧ ∃ (d : Addr) (fs : List (Str × V)), H2 a = some (exo a C (some d)) ∧ H2 d = some (exd d fs) ∧ H d = none ∧ E (.ref C) (some d) (upd (del H2 a) d (.xd fs))) (fun _ _ _ => False) := by
  refine ⟨by show 1 ≤ 1000; decide, fun a ha => ⟨a, v, rfl, x, n, upd_same, fun dx hdx ne => ⟨rfl, dx, [(f, v)], upd_same, by rw [upd_ne ne, upd_same], ?_, ?_⟩⟩⟩
  · rw [upd_ne ne] at hdx
    exact hdx
  · rw [upd_ne ne] at hdx
    refine h dx _ hdx upd_same fun b o e => ?_
    have nb : b ≠ a := ne_of_none e ha
    have nd : b ≠ dx := ne_of_none e hdx
    rw [upd_ne nd, del_ne nb, upd_ne nb, upd_ne nd, upd_ne nb]
    exact e
/-! ### promises -/
def sp_req (K : PySem.W.Frag) (f : Option PyData → Bool) (C : Addr) (fld : Str) : Sp := fun vs H Q E => ∃ (v : V) (o : Option PyData), vs = [v] ∧ VD K H v o ∧ (f o = true → ∀ H', Same H H' → Q .non H') ∧ (f o = false → Rz H E C fld v)
def sp_in_span (K : PySem.W.Frag) (CS CK : Addr) : Sp := fun vs H Q E => ∃ (x y : V) (o o2 : Option PyData), vs = [x, y] ∧ VD K H x o ∧ VD K H y o2 ∧ (spanO o = false → Rz H E CS "value" x) ∧ (spanO o = true → intO o2 = false → Rz H E CK "value" y) ∧
  ∀ (s : Span) (k : Int), o = some (spD s) → okS s = true → o2 = some (.int k) → ∀ H', Same H H' → Q (.bl (inS s k)) H'
def sp_common (K : PySem.W.Frag) (CS : Addr) : Sp := fun vs H Q E => ∃ (x y : V) (o o2 : Option PyData), vs = [x, y] ∧ VD K H x o ∧ VD K H y o2 ∧ (spanO o = false → Rz H E CS "value" x) ∧ (spanO o = true → spanO o2 = false → Rz H E CS "value" y) ∧
  ∀ (s t : Span), o = some (spD s) → okS s = true → o2 = some (spD t) → okS t = true → (okS (comS s t) = true → ∀ p H', Same H H' → H p = none → H' p = some (.tup (spV (comS s t))) → Q (.ref p) H') ∧ (okS (comS s t) = false → ∀ H', Same H H' → Q .non H')
def sp_meet (K : PySem.W.Frag) (CS : Addr) : Sp := fun vs H Q E => ∃ (x y : V) (o o2 : Option PyData), vs = [x, y] ∧ VD K H x o ∧ VD K H y o2 ∧ (spanO o = false → Rz H E CS "value" x) ∧ (spanO o = true → spanO o2 = false → Rz H E CS "value" y) ∧
  ∀ (s t : Span), o = some (spD s) → okS s = true → o2 = some (spD t) → okS t = true → ∀ H', Same H H' → Q (.bl (okS (comS s t))) H'
def lowsL (a b : Option Int) : List Int := (a.toList ++ b.toList)
theorem limV_non (l : Option Int) : decide (limV l = .non) = l.isNone := by
  cases l <;> rfl
theorem max_none {a b : Option Int} (e : lowsL a b = []) : V.non = limV (maxO a b) := by
  cases a <;> cases b <;> first | rfl | cases e
theorem min_none {a b : Option Int} (e : lowsL a b = []) : V.non = limV (minO a b) := by
  cases a <;> cases b <;> first | rfl | cases e
theorem max_some {a b : Option Int} {m : Int} (h1 : m ∈ lowsL a b) (h2 : ∀ n ∈ lowsL a b, n ≤ m) : V.int m = limV (maxO a b) := by
  cases a with
  | none =>
    cases b with
    | none => cases h1
    | some y =>
      obtain rfl : m = y := by simpa [lowsL] using h1
      rfl
  | some x =>
    cases b with
    | none =>
      obtain rfl : m = x := by simpa [lowsL] using h1
      rfl
    | some y =>
      have hx := h2 x (by simp [lowsL])
      have hy := h2 y (by simp [lowsL])
      have hm : m = x ∨ m = y := by simpa [lowsL] using h1
      show V.int m = V.int (max x y)
      congr 1
      omega
theorem min_some {a b : Option Int} {m : Int} (h1 : m ∈ lowsL a b) (h2 : ∀ n ∈ lowsL a b, m ≤ n) : V.int m = limV (minO a b) := by
  cases a with
  | none =>
    cases b with
    | none => cases h1
    | some y =>
      obtain rfl : m = y := by simpa [lowsL] using h1
      rfl
  | some x =>
    cases b with
    | none =>
      obtain rfl : m = x := by simpa [lowsL] using h1
      rfl
    | some y =>
      have hx := h2 x (by simp [lowsL])
      have hy := h2 y (by simp [lowsL])
      have hm : m = x ∨ m = y := by simpa [lowsL] using h1
      show V.int m = V.int (min x y)
      congr 1
      omega
/-! ### exceptions as values: made, asked for their class, their field read -/
section
variable {X : Cx}
/-- the reading of C(v, ..) as a value: __init__ runs, the object is handed on -/
def tOV (C : Addr) (m : Sp) (ta : TA) : TE := fun σ H Q => ta σ H fun vs H1 => vs.length ≤ 1000 ∧ ∀ a, H1 a = none → m (.ref a :: (vs ++ [])) (upd H1 a (exo a C none)) (fun v H2 => v = .non ∧ Q (.ref a) H2) (fun _ _ _ => False)
theorem pe_oexV {CX : CXT} {y : Str} {C fi : Addr} {n : Nat} {g : FuncData} {qs : List Str} {m : Sp} {e1 : Expr} {er : List Expr} {ta : TA} {pN pC : Pos} (O : OexC X.K C)
    (h1 : PySem.W.findIn X.K (.ref C) "__init__" = some (some (.ref fi))) (h2 : PySem.W.typeIn X.K (.ref fi) = some (.type "function"))
    (B : FnOk X.prog X.w X.K X.mg X.base CX n fi g qs m) (hr : Room (n + 1) X.A) (bi : Binds X.K g qs []) (px : Passes CX X (fun _ _ _ => False)) (hg : Gl X y) (hm : X.mg y = some (.ref C)) (ha : PA X (e1 :: er) ta)
    (nd : (y == ("__debug__" : Str)) = false := by decide) (st : starEach (e1 :: er) X.env = (false, eval e1 X.env) :: starEach er X.env := by rfl) (np : (backTo pC (starEach er X.env)).any (·.1) = false := by rfl) :
    PE X (.Call (.Name y pN) (e1 :: er) [] pC) (tOV C m ta) := by
  refine ⟨fun pins s0 σ H Q I0 hq => ?_⟩
  obtain ⟨_, _, _, _, bm, _, _, _, _, _, _, _, _, _, _, look, refs⟩ := O.cls
  refine wpAny_Call_Name_kw (ld_glob I0 hg hm ?_ nd)
  refine PySem.W.callWith_K (h₀ := X.base) I0.ok.mod.kin O.kC (thn (ha.run pC pins s0 σ H _ I0 hq) fun us s1 got => ?_) st np
  obtain ⟨vs, H1, I1, rel, few, ini⟩ := got
  refine ⟨I1.kIn, ?_⟩
  show wpAny _ _ (call (.ref C) us) _ _ _
  obtain ⟨hp, gens, drawn, toks, os⟩ := s1
  have over : hp.objs.size ≤ hp.objs.size + 1 := by omega
  have made := ini (hp.objs.size + 1) (I1.hok.fresh over)
  have at1 : ((hp.push (PySem.W.kdv_tup us)).push (PySem.HandSPX.excO C hp.objs.size)).get? (hp.objs.size + 1) = some (PySem.HandSPX.excO C hp.objs.size) := by
    heap_get
  have I2 := I1.laid (t' := toks) (a := hp.objs.size + 1) (o := exo (hp.objs.size + 1) C none) (h' := (hp.push (PySem.W.kdv_tup us)).push (PySem.HandSPX.excO C hp.objs.size))
    (fun b o z => Heap.get?_push_of_some _ (Heap.get?_push_of_some _ z)) over (exo_ok at1)
  have relI : Vals (V.ref (hp.objs.size + 1) :: (vs ++ [])) (Value.ref (hp.objs.size + 1) :: (us ++ [])) := .cons rfl (rel.append .nil)
  have lens : (Value.ref (hp.objs.size + 1) :: us ++ []).length = qs.length := by
    have z := relI.length
    rw [B.len _ _ _ _ made] at z
    exact z.symm
  have fits : us.length ≤ sizeLine := by
    rw [← Paired.length rel, sizeLine_eq]
    omega
  refine wpAny_call (PySem.HandSPX.call_own F.excBase_ValueError (fun Y => PySem.HandSPX.refsVE_contains Y bm refs) (I1.kIn _ _ look) (PySem.W.looks_findIn I1.kIn h1) (fun self => PySem.W.bind_fn I1.kIn self h2) fits
    (codeAny_mono (B.run _ X.stack _ _ ⟨Value.ref (hp.objs.size + 1) :: us, []⟩ (Value.ref (hp.objs.size + 1) :: (us ++ [])) _ _ (fun _ _ _ => False) (hr.make C us []) (I2.env0.make C us []) (by exact bi _ (Value.ref (hp.objs.size + 1) :: us) I2.kIn lens) relI made) fun r s' fin => ?_))
  cases r with
  | error er => exact px pins σ _ _ er s' I2 fin
  | ok fl =>
    cases fl with
    | ret u =>
      obtain ⟨w, H2, J, rw', ew, q⟩ := I2.after fin
      subst ew
      exact ⟨rw', .ref (hp.objs.size + 1), H2, J, rfl, q⟩
    | next => exact False.elim fin
    | brk => exact False.elim fin
    | cont => exact False.elim fin
/-- x.f of an exception object at hand -/
def tXo (K : PySem.W.Frag) (f : Str) (te : TE) : TE := fun σ H Q => te σ H fun x H1 => ∃ (a C d : Addr) (fs : List (Str × V)) (v : V), x = .ref a ∧ XfC K C ∧ PySem.W.findIn K (.ref C) f = some none ∧ H1 a = some (exo a C (some d)) ∧ H1 d = some (exd d fs) ∧ fs.lookup f = some v ∧ Q v H1
theorem pe_xo {e : Expr} {te : TE} {pos : Pos} {f : Str} (he : PE X e te) (hb : attributeBase e f X.env (eval e X.env) = eval e X.env := by rfl) : PE X (.Attribute e f pos) (tXo X.K f te) := by
  refine ⟨fun pins s σ H Q I h => attr_of hb (thn (he.run pins s σ H _ I h) fun u s1 hh => ?_)⟩
  obtain ⟨x, H1, I1, rx, a, C, d, fs, v, rfl, T, hno, ea, ed, l, q⟩ := hh
  cases (show u = Value.ref a from rx)
  obtain ⟨t1, oa⟩ := exo_at I1.hok ea
  obtain ⟨mA, ns, hr⟩ := exd_at I1.hok ed
  obtain ⟨od, ho, hl⟩ := lookIn_ns ns
  obtain ⟨w, hw, rw'⟩ := RelO.some_of (v := v) (o := mA f) (by rw [← l]; exact hr f)
  have J : PySem.W.InstAt s1.heap a _ C (some od) := ⟨oa, rfl, rfl, ho⟩
  exact HandSPX.exc_get I1.kIn J T.ga T.gg T.exC (PySem.W.findObj_own T.hdC hno rfl (by rw [hl, hw])) (handed_of rw') ⟨v, H1, I1.tok _, rw', q⟩
/-- what isinstance asks of the class of an exception object -/
structure KitE (K : PySem.W.Frag) (C : Addr) : Prop where
  cl : (PySem.W.clsIn K C).isSome = true
  ga : PySem.W.findIn K (.ref C) "__getattribute__" = some (some (.builtin "BaseException.__getattribute__"))
  gt : PySem.W.findIn K (.ref C) "__getattr__" = some none
  sub : PySem.W.subIn K (.ref C) (.type "BaseException") = some true
  co : PySem.W.findIn K (.ref C) "__class__" = some (some (.builtin "object.__class__"))
  sp : PySem.W.specialIn K (.builtin "object.__class__") "__get__" = some (some (.builtin "getset_descriptor.__get__"))
  tk : PySem.W.takesIn K (.builtin "object.__class__") = some true
  ob : PySem.W.mroIn K C (.type "object") = some true
/-- an exception object of the class at C -/
def EAt (H : Hp) (a C : Addr) : Prop := H a = some (ExO (.ref C) a) ∨ ∃ d fs, H a = some (exo a C (some d)) ∧ H d = some (exd d fs)
def rIsE (K : PySem.W.Frag) : List V → Hp → VK → Prop := fun xs H Q => ∃ (a C : Addr) (c : V) (u : Value) (b : Bool), xs = [.ref a, c] ∧ ClsV c u ∧ EAt H a C ∧ KitE K C ∧ PySem.W.kitOne K (.ref C) u = some b ∧ Q (.bl b) H
theorem call_isE : CallR X (.builtin "isinstance") (rIsE X.K) := by
  intro pins s σ H xs us Q I r h
  obtain ⟨a, C, c, u, b, rfl, k, ea, E, kit, q⟩ := h
  obtain ⟨u1, u2, rfl, r1, r2⟩ := vals2 r
  cases (show u1 = Value.ref a from r1)
  have e2 := k.eq r2
  subst e2
  have no : (Value.ref a) ≠ .builtin "__main__.__loader__#opaque" := fun z => nomatch z
  rcases ea with ea | ⟨d, fs, ea, ed⟩
  · obtain ⟨⟨oe, vs, ho, hz, hd, _⟩, _, _⟩ := I.hok a _ ea
    have J : PySem.W.InstAt s.heap a oe C none := ⟨ho, hz.1, by unfold PySem.W.notCls; rw [hd] <;> rfl, by rw [hz.2]; trivial⟩
    exact PySem.W.kia_one (PySem.W.kitx_exc E.cl E.ga E.gt E.sub E.co E.sp E.tk E.ob) I.kIn J kit no fun tk => ⟨.bl b, H, I.tok tk, rfl, q⟩
  · obtain ⟨t1, oa⟩ := exo_at I.hok ea
    obtain ⟨mA, ns, hr⟩ := exd_at I.hok ed
    obtain ⟨od, ho, hl⟩ := lookIn_ns ns
    have J : PySem.W.InstAt s.heap a _ C (some od) := ⟨oa, rfl, rfl, ho⟩
    exact PySem.W.kia_one (PySem.W.kitx_exc E.cl E.ga E.gt E.sub E.co E.sp E.tk E.ob) I.kIn J kit no fun tk => ⟨.bl b, H, I.tok tk, rfl, q⟩
/-- C(), a class without own __init__ -/
theorem pe_excV0 {C : Addr} {bmB : List Value} {B newId initId : String} {y : Str} {pN pC : Pos} (F : ExcBaseFacts B newId initId bmB) (q : PySem.W.excIn X.K C bmB newId = true) (hm : X.mg y = some (.ref C)) (kC : PySem.W.keepIn X.K (.ref C) = true) (hg : Gl X y)
    (nd : (y == ("__debug__" : Str)) = false := by decide) : PE X (.Call (.Name y pN) [] [] pC) (fun _ H Q => ∀ a, H a = none → Q (.ref a) (upd H a (ExO (.ref C) a))) := by
  refine ⟨fun pins s σ H Q I h => ?_⟩
  refine wpAny_Call_Name_kw (ld_glob I hg hm ?_ nd)
  refine PySem.W.callWith_K0 I.kIn kC ?_
  show wpAny _ _ (call (.ref C) []) _ _ _
  obtain ⟨_, _, _, _, _, _, _, _, _, _, _, _, _, _, _, _, lookN, look, ns, ni, T⟩ := exc_obj I.kIn q
  refine wpAny_call_exc_subT F T look ns ni (fun h' a hm => ?_) (by show 0 ≤ sizeLine; omega)
  have hn : H a = none := I.hok.gone hm.new
  obtain ⟨t, ht, _, _⟩ := hm.there
  exact ⟨.ref a, upd H a (ExO (.ref C) a), I.laidN hm.keeps hm.new hn (exO_ok ht ⟨rfl, rfl⟩ rfl rfl rfl (show 4 < 6 by decide)), rfl, h a hn⟩
end
/-! ### what stands of all classes at once -/
def kitEB (K : PySem.W.Frag) (C : Addr) : Bool := (PySem.W.clsIn K C).isSome && (decide (PySem.W.findIn K (.ref C) "__getattribute__" = some (some (.builtin "BaseException.__getattribute__"))) && (decide (PySem.W.findIn K (.ref C) "__getattr__" = some none) &&
  (decide (PySem.W.subIn K (.ref C) (.type "BaseException") = some true) && (decide (PySem.W.findIn K (.ref C) "__class__" = some (some (.builtin "object.__class__"))) && (decide (PySem.W.specialIn K (.builtin "object.__class__") "__get__" = some (some (.builtin "getset_descriptor.__get__"))) &&
  (decide (PySem.W.takesIn K (.builtin "object.__class__") = some true) && decide (PySem.W.mroIn K C (.type "object") = some true)))))))
theorem kitEB_ok {K : PySem.W.Frag} {C : Addr} (h : kitEB K C = true) : KitE K C := by
  unfold kitEB at h
  simp only [Bool.and_eq_true, decide_eq_true_iff] at h
  obtain ⟨h1, h2, h3, h4, h5, h6, h7, h8⟩ := h
  exact ⟨h1, h2, h3, h4, h5, h6, h7, h8⟩
def kitsE (K : PySem.W.Frag) (cs : List Addr) : Bool := cs.all (kitEB K)
def kitRow (K : PySem.W.Frag) (c : Addr) (cs : List Addr) : Bool := cs.all fun d => decide (PySem.W.kitOne K (.ref c) (.ref d) = some false)
def kitAt (K : PySem.W.Frag) (c : Addr) (i : Nat) : Nat → List Addr → Bool
  | _, [] => true
  | j, d :: r => decide (PySem.W.kitOne K (.ref c) (.ref d) = some (i == j)) && kitAt K c i (j + 1) r
def kitTabAt (K : PySem.W.Frag) (cs : List Addr) : Nat → List Addr → Bool
  | _, [] => true
  | i, c :: r => kitAt K c i 0 cs && kitTabAt K cs (i + 1) r
def kitTab (K : PySem.W.Frag) (cs : List Addr) : Bool := kitTabAt K cs 0 cs
def kitUp (K : PySem.W.Frag) (p c : Addr) : Bool := decide (PySem.W.kitOne K (.ref c) (.ref p) = some true) && (decide (PySem.W.kitOne K (.ref c) (.type "ValueError") = some true) && (decide (PySem.W.kitOne K (.ref c) (.type "KeyError") = some false) && (decide (PySem.W.kitOne K (.ref c) (.type "IndexError") = some false) && decide (PySem.W.kitOne K (.ref c) (.type "TypeError") = some false))))
def kitUps (K : PySem.W.Frag) (p : Addr) (cs : List Addr) : Bool := cs.all (kitUp K p)
theorem kitAt_get {K : PySem.W.Frag} {c : Addr} {i : Nat} : ∀ {cs : List Addr} {j k : Nat} {d : Addr}, kitAt K c i k cs = true → cs[j]? = some d → PySem.W.kitOne K (.ref c) (.ref d) = some (i == k + j)
  | [], _, _, _, _, h => by simp at h
  | e :: r, 0, k, d, h, hj => by
    cases hj
    exact of_decide_eq_true (Bool.and_eq_true_iff.mp h).1
  | e :: r, j + 1, k, d, h, hj => by
    have := kitAt_get (j := j) (Bool.and_eq_true_iff.mp h).2 (by simpa using hj)
    rw [this]
    congr 2
    omega
theorem kitTabAt_get {K : PySem.W.Frag} {cs : List Addr} : ∀ {r : List Addr} {i k : Nat} {c : Addr}, kitTabAt K cs k r = true → r[i]? = some c → kitAt K c (k + i) 0 cs = true
  | [], _, _, _, _, h => by simp at h
  | e :: r, 0, k, c, h, hi => by
    cases hi
    exact (Bool.and_eq_true_iff.mp h).1
  | e :: r, i + 1, k, c, h, hi => by
    have := kitTabAt_get (i := i) (Bool.and_eq_true_iff.mp h).2 (by simpa using hi)
    rw [show k + (i + 1) = k + 1 + i by omega]
    exact this
theorem kitTab_get {K : PySem.W.Frag} {cs : List Addr} {i j : Nat} {c d : Addr} (h : kitTab K cs = true) (hi : cs[i]? = some c) (hj : cs[j]? = some d) : PySem.W.kitOne K (.ref c) (.ref d) = some (i == j) := by
  have := kitAt_get (kitTabAt_get h hi) hj
  rw [this]
  congr 2 <;> omega
theorem kitsE_get {K : PySem.W.Frag} {cs : List Addr} {c : Addr} (h : kitsE K cs = true) (hc : c ∈ cs) : KitE K c := kitEB_ok (List.all_eq_true.mp h _ hc)
theorem kitRow_get {K : PySem.W.Frag} {cs : List Addr} {c d : Addr} (h : kitRow K c cs = true) (hd : d ∈ cs) : PySem.W.kitOne K (.ref c) (.ref d) = some false := of_decide_eq_true (List.all_eq_true.mp h _ hd)
theorem kitUps_get {K : PySem.W.Frag} {cs : List Addr} {p c : Addr} (h : kitUps K p cs = true) (hc : c ∈ cs) : PySem.W.kitOne K (.ref c) (.ref p) = some true ∧ PySem.W.kitOne K (.ref c) (.type "ValueError") = some true ∧ PySem.W.kitOne K (.ref c) (.type "KeyError") = some false ∧ PySem.W.kitOne K (.ref c) (.type "IndexError") = some false ∧ PySem.W.kitOne K (.ref c) (.type "TypeError") = some false := by
  have h' := List.all_eq_true.mp h _ hc
  unfold kitUp at h'
  simp only [Bool.and_eq_true, decide_eq_true_iff] at h'
  exact h'
/-- an exception with one field, made -/
def MadeX (H : Hp) (a C : Addr) (f : Str) (v : V) : Prop := ∃ d, H a = some (exo a C (some d)) ∧ H d = some (exd d [(f, v)])
theorem MadeX.mono {H H' : Hp} {a C : Addr} {f : Str} {v : V} (s : Same H H') (h : MadeX H a C f v) : MadeX H' a C f v := by
  obtain ⟨d, h1, h2⟩ := h
  exact ⟨d, s _ _ h1, s _ _ h2⟩
theorem MadeX.at {H : Hp} {a C : Addr} {f : Str} {v : V} (h : MadeX H a C f v) : EAt H a C := by
  obtain ⟨d, h1, h2⟩ := h
  exact .inr ⟨d, _, h1, h2⟩
theorem EAt.mono {H H' : Hp} {a C : Addr} (s : Same H H') (h : EAt H a C) : EAt H' a C := by
  rcases h with h | ⟨d, fs, h1, h2⟩
  · exact .inl (s _ _ h)
  · exact .inr ⟨d, fs, s _ _ h1, s _ _ h2⟩
theorem made_x {H : Hp} {a dx C : Addr} {f : Str} {v : V} (ha : H a = none) (hdx : upd H a (exo a C none) dx = none) (ne : dx ≠ a) : Same H (upd (upd (upd H a (exo a C none)) dx (exd dx [(f, v)])) a (exo a C (some dx))) ∧ MadeX (upd (upd (upd H a (exo a C none)) dx (exd dx [(f, v)])) a (exo a C (some dx))) a C f v := by
  refine ⟨fun b o e => ?_, dx, upd_same, by rw [upd_ne ne, upd_same]⟩
  have nb : b ≠ a := ne_of_none e ha
  rw [upd_ne ne] at hdx
  have nd : b ≠ dx := ne_of_none e hdx
  rw [upd_ne nb, upd_ne nd, upd_ne nb]
  exact e
theorem upd_known {H : Hp} {a : Addr} {o : HO} (h : H a = none) : ∃ G, G = upd H a o ∧ Same H G ∧ G a = some o := ⟨_, rfl, same_new h, upd_same⟩
/-! ### the things -/
abbrev dA : List (Key × V) := [(Sum.inr (Str.ofString "a"), .int 1)]
/-- data, or the dict {'a': 1} -/
inductive ThV (K : PySem.W.Frag) (H : Hp) : V → Prop where
  | dat {v : V} {d : PyData} : Dp K H v d → SeqAt.shaped d = true → ThV K H v
  | dic {a : Addr} : H a = some (.dK dA) → ThV K H (.ref a)
theorem ThV.mono {K : PySem.W.Frag} {H H' : Hp} (s : Same H H') {v : V} (h : ThV K H v) : ThV K H' v := by
  cases h with
  | dat a b => exact .dat (dp_mono s a) b
  | dic a => exact .dic (s _ _ a)
theorem ThV.ty {K : PySem.W.Frag} {H : Hp} {v : V} (h : ThV K H v) : ∃ o, TyX K H v (.type (tyO o)) := by
  cases h with
  | dat a b => exact ⟨some _, dp_ty a⟩
  | dic a => exact ⟨none, .base (.dK a)⟩
def rNeT (K : PySem.W.Frag) : R2 := fun x y H Q => rNeD K x y H Q ∨ rNeDA x y H Q
theorem op_neT {X : Cx} (hu : X.A.units + 64 < cLine) : OpR X (compareOp .NotEq) (rNeT X.K) := fun pins s σ H x y v u Q I rx ry h => h.elim (op_neD hu pins s σ H x y v u Q I rx ry) (op_ne_dictA (by omega) pins s σ H x y v u Q I rx ry)
theorem ne_same {K : PySem.W.Frag} {H : Hp} {v : V} {Q : VK} (h : ThV K H v) (q : Q (.bl false) H) : rNeT K v v H Q := by
  cases h with
  | @dat _ d a b =>
    refine .inl ⟨d, d, a, a, b, b, ?_⟩
    rw [SeqAt.eqv_refl _ (shaped_iff.mp b).1]
    exact q
  | dic a => exact .inr ⟨_, _, dA, dA, rfl, rfl, a, a, rfl, (fun p hp => by cases List.mem_singleton.mp hp; exact ⟨by simp [valV], rfl⟩), q⟩
def sp_classes (K : PySem.W.Frag) (cs : List Addr) : Sp := fun vs H Q _ => ∃ (a C : Addr) (bits : Nat → Bool), vs = [.ref a] ∧ EAt H a C ∧ KitE K C ∧ (∀ j d, cs[j]? = some d → PySem.W.kitOne K (.ref C) (.ref d) = some (bits j)) ∧ ∀ p H', Same H H' → H' p = some (.lst (((List.range 38).filter bits).map fun j => V.int ((j : Nat) : Int))) → Q (.ref p) H'
def sp_under (K : PySem.W.Frag) (cp : Addr) : Sp := fun vs H Q _ => ∃ (a C : Addr), vs = [.ref a] ∧ EAt H a C ∧ KitE K C ∧ kitUp K cp C = true ∧ Q (.bl true) H
/-- the exceptions at as, made of v, one of each class -/
inductive AllX (v : V) : Hp → List Addr → List (Addr × Option Str) → Prop where
  | nil {H : Hp} : AllX v H [] []
  | fld {H : Hp} {a C : Addr} {f : Str} {as : List Addr} {cs : List (Addr × Option Str)} : MadeX H a C f v → AllX v H as cs → AllX v H (a :: as) ((C, some f) :: cs)
  | bare {H : Hp} {a C : Addr} {as : List Addr} {cs : List (Addr × Option Str)} : H a = some (ExO (.ref C) a) → AllX v H as cs → AllX v H (a :: as) ((C, none) :: cs)
theorem AllX.mono {v : V} {H H' : Hp} (s : Same H H') : ∀ {as : List Addr} {cs : List (Addr × Option Str)}, AllX v H as cs → AllX v H' as cs
  | _, _, .nil => .nil
  | _, _, .fld h r => .fld (h.mono s) (AllX.mono s r)
  | _, _, .bare h r => .bare (s _ _ h) (AllX.mono s r)
theorem AllX.app {v : V} {H : Hp} : ∀ {as bs : List Addr} {cs ds : List (Addr × Option Str)}, AllX v H as cs → AllX v H bs ds → AllX v H (as ++ bs) (cs ++ ds)
  | _, _, _, _, .nil, k => k
  | _, _, _, _, .fld h r, k => .fld h (AllX.app r k)
  | _, _, _, _, .bare h r, k => .bare h (AllX.app r k)
theorem AllX.len {v : V} {H : Hp} : ∀ {as : List Addr} {cs : List (Addr × Option Str)}, AllX v H as cs → as.length = cs.length
  | _, _, .nil => rfl
  | _, _, .fld _ r => congrArg (· + 1) (AllX.len r)
  | _, _, .bare _ r => congrArg (· + 1) (AllX.len r)
theorem AllX.get {v : V} {H : Hp} : ∀ {as : List Addr} {cs : List (Addr × Option Str)} {i : Nat} {a : Addr}, AllX v H as cs → as[i]? = some a → ∃ c, cs[i]? = some c ∧ EAt H a c.1 ∧ ∀ f, c.2 = some f → MadeX H a c.1 f v
  | _, _, _, _, .nil, h => by simp at h
  | _, _, 0, _, .fld h r, e => by
    cases e
    exact ⟨_, rfl, h.at, fun f ef => by cases ef; exact h⟩
  | _, _, 0, _, .bare h r, e => by
    cases e
    exact ⟨_, rfl, .inl h, fun f ef => by cases ef⟩
  | _, _, i + 1, _, .fld h r, e => AllX.get (i := i) r (by simpa using e)
  | _, _, i + 1, _, .bare h r, e => AllX.get (i := i) r (by simpa using e)
def sp_made (cs : List (Addr × Option Str)) : Sp := fun vs H Q _ => ∃ v : V, vs = [v] ∧ ∀ (p : Addr) (as : List Addr) (H' : Hp), Same H H' → AllX v H' as cs → H' p = some (.lst (as.map V.ref)) → Q (.ref p) H'
def sp_fields (cs : List (Addr × Option Str)) : Sp := fun vs H Q _ => ∃ (p : Addr) (as : List Addr) (v : V), vs = [.ref p] ∧ AllX v H as cs ∧ H p = some (.lst (as.map V.ref)) ∧ ∀ (q : Addr) (H' : Hp), Same H H' → H' q = some (.lst (List.replicate 33 v)) → Q (.ref q) H'
set_option maxHeartbeats 0
/-- what the top has written -/
structure Txt (K : PySem.W.Frag) (mg : Str → Option Value) where
  f_InvalidName_init : Addr
  fd_InvalidName_init : FuncData
  F_InvalidName_init : Fun K "__init__" "InvalidName.__init__" s_InvalidName_init f_InvalidName_init fd_InvalidName_init
  b_InvalidName_init : Binds K fd_InvalidName_init ["self", "value"] []
  f_InvalidKey_init : Addr
  fd_InvalidKey_init : FuncData
  F_InvalidKey_init : Fun K "__init__" "InvalidKey.__init__" s_InvalidKey_init f_InvalidKey_init fd_InvalidKey_init
  b_InvalidKey_init : Binds K fd_InvalidKey_init ["self", "value"] []
  f_InvalidSpan_init : Addr
  fd_InvalidSpan_init : FuncData
  F_InvalidSpan_init : Fun K "__init__" "InvalidSpan.__init__" s_InvalidSpan_init f_InvalidSpan_init fd_InvalidSpan_init
  b_InvalidSpan_init : Binds K fd_InvalidSpan_init ["self", "value"] []
  f_InvalidSpans_init : Addr
  fd_InvalidSpans_init : FuncData
  F_InvalidSpans_init : Fun K "__init__" "InvalidSpans.__init__" s_InvalidSpans_init f_InvalidSpans_init fd_InvalidSpans_init
  b_InvalidSpans_init : Binds K fd_InvalidSpans_init ["self", "value"] []
  f_InvalidCatalog_init : Addr
  fd_InvalidCatalog_init : FuncData
  F_InvalidCatalog_init : Fun K "__init__" "InvalidCatalog.__init__" s_InvalidCatalog_init f_InvalidCatalog_init fd_InvalidCatalog_init
  b_InvalidCatalog_init : Binds K fd_InvalidCatalog_init ["self", "value"] []
  f_InvalidChange_init : Addr
  fd_InvalidChange_init : FuncData
  F_InvalidChange_init : Fun K "__init__" "InvalidChange.__init__" s_InvalidChange_init f_InvalidChange_init fd_InvalidChange_init
  b_InvalidChange_init : Binds K fd_InvalidChange_init ["self", "value"] []
  f_InvalidModes_init : Addr
  fd_InvalidModes_init : FuncData
  F_InvalidModes_init : Fun K "__init__" "InvalidModes.__init__" s_InvalidModes_init f_InvalidModes_init fd_InvalidModes_init
  b_InvalidModes_init : Binds K fd_InvalidModes_init ["self", "value"] []
  f_InvalidClash_init : Addr
  fd_InvalidClash_init : FuncData
  F_InvalidClash_init : Fun K "__init__" "InvalidClash.__init__" s_InvalidClash_init f_InvalidClash_init fd_InvalidClash_init
  b_InvalidClash_init : Binds K fd_InvalidClash_init ["self", "value"] []
  f_InvalidStrengths_init : Addr
  fd_InvalidStrengths_init : FuncData
  F_InvalidStrengths_init : Fun K "__init__" "InvalidStrengths.__init__" s_InvalidStrengths_init f_InvalidStrengths_init fd_InvalidStrengths_init
  b_InvalidStrengths_init : Binds K fd_InvalidStrengths_init ["self", "value"] []
  f_InvalidProgram_init : Addr
  fd_InvalidProgram_init : FuncData
  F_InvalidProgram_init : Fun K "__init__" "InvalidProgram.__init__" s_InvalidProgram_init f_InvalidProgram_init fd_InvalidProgram_init
  b_InvalidProgram_init : Binds K fd_InvalidProgram_init ["self", "value"] []
  f_InvalidPrograms_init : Addr
  fd_InvalidPrograms_init : FuncData
  F_InvalidPrograms_init : Fun K "__init__" "InvalidPrograms.__init__" s_InvalidPrograms_init f_InvalidPrograms_init fd_InvalidPrograms_init
  b_InvalidPrograms_init : Binds K fd_InvalidPrograms_init ["self", "value"] []
  f_InvalidProtocol_init : Addr
  fd_InvalidProtocol_init : FuncData
  F_InvalidProtocol_init : Fun K "__init__" "InvalidProtocol.__init__" s_InvalidProtocol_init f_InvalidProtocol_init fd_InvalidProtocol_init
  b_InvalidProtocol_init : Binds K fd_InvalidProtocol_init ["self", "value"] []
  f_InvalidRows_init : Addr
  fd_InvalidRows_init : FuncData
  F_InvalidRows_init : Fun K "__init__" "InvalidRows.__init__" s_InvalidRows_init f_InvalidRows_init fd_InvalidRows_init
  b_InvalidRows_init : Binds K fd_InvalidRows_init ["self", "value"] []
  f_InvalidSession_init : Addr
  fd_InvalidSession_init : FuncData
  F_InvalidSession_init : Fun K "__init__" "InvalidSession.__init__" s_InvalidSession_init f_InvalidSession_init fd_InvalidSession_init
  b_InvalidSession_init : Binds K fd_InvalidSession_init ["self", "value"] []
  f_InvalidNumber_init : Addr
  fd_InvalidNumber_init : FuncData
  F_InvalidNumber_init : Fun K "__init__" "InvalidNumber.__init__" s_InvalidNumber_init f_InvalidNumber_init fd_InvalidNumber_init
  b_InvalidNumber_init : Binds K fd_InvalidNumber_init ["self", "value"] []
  f_InvalidWeaving_init : Addr
  fd_InvalidWeaving_init : FuncData
  F_InvalidWeaving_init : Fun K "__init__" "InvalidWeaving.__init__" s_InvalidWeaving_init f_InvalidWeaving_init fd_InvalidWeaving_init
  b_InvalidWeaving_init : Binds K fd_InvalidWeaving_init ["self", "value"] []
  f_InvalidStore_init : Addr
  fd_InvalidStore_init : FuncData
  F_InvalidStore_init : Fun K "__init__" "InvalidStore.__init__" s_InvalidStore_init f_InvalidStore_init fd_InvalidStore_init
  b_InvalidStore_init : Binds K fd_InvalidStore_init ["self", "value"] []
  f_InvalidScene_init : Addr
  fd_InvalidScene_init : FuncData
  F_InvalidScene_init : Fun K "__init__" "InvalidScene.__init__" s_InvalidScene_init f_InvalidScene_init fd_InvalidScene_init
  b_InvalidScene_init : Binds K fd_InvalidScene_init ["self", "value"] []
  f_InvalidLog_init : Addr
  fd_InvalidLog_init : FuncData
  F_InvalidLog_init : Fun K "__init__" "InvalidLog.__init__" s_InvalidLog_init f_InvalidLog_init fd_InvalidLog_init
  b_InvalidLog_init : Binds K fd_InvalidLog_init ["self", "value"] []
  f_InvalidText_init : Addr
  fd_InvalidText_init : FuncData
  F_InvalidText_init : Fun K "__init__" "InvalidText.__init__" s_InvalidText_init f_InvalidText_init fd_InvalidText_init
  b_InvalidText_init : Binds K fd_InvalidText_init ["self", "value"] []
  f_InvalidCommand_init : Addr
  fd_InvalidCommand_init : FuncData
  F_InvalidCommand_init : Fun K "__init__" "InvalidCommand.__init__" s_InvalidCommand_init f_InvalidCommand_init fd_InvalidCommand_init
  b_InvalidCommand_init : Binds K fd_InvalidCommand_init ["self", "value"] []
  f_Duplicate_init : Addr
  fd_Duplicate_init : FuncData
  F_Duplicate_init : Fun K "__init__" "Duplicate.__init__" s_Duplicate_init f_Duplicate_init fd_Duplicate_init
  b_Duplicate_init : Binds K fd_Duplicate_init ["self", "name"] []
  f_UnknownPart_init : Addr
  fd_UnknownPart_init : FuncData
  F_UnknownPart_init : Fun K "__init__" "UnknownPart.__init__" s_UnknownPart_init f_UnknownPart_init fd_UnknownPart_init
  b_UnknownPart_init : Binds K fd_UnknownPart_init ["self", "name"] []
  f_UnknownMode_init : Addr
  fd_UnknownMode_init : FuncData
  F_UnknownMode_init : Fun K "__init__" "UnknownMode.__init__" s_UnknownMode_init f_UnknownMode_init fd_UnknownMode_init
  b_UnknownMode_init : Binds K fd_UnknownMode_init ["self", "name"] []
  f_UnknownEntry_init : Addr
  fd_UnknownEntry_init : FuncData
  F_UnknownEntry_init : Fun K "__init__" "UnknownEntry.__init__" s_UnknownEntry_init f_UnknownEntry_init fd_UnknownEntry_init
  b_UnknownEntry_init : Binds K fd_UnknownEntry_init ["self", "name"] []
  f_NameTaken_init : Addr
  fd_NameTaken_init : FuncData
  F_NameTaken_init : Fun K "__init__" "NameTaken.__init__" s_NameTaken_init f_NameTaken_init fd_NameTaken_init
  b_NameTaken_init : Binds K fd_NameTaken_init ["self", "name"] []
  f_Overlap_init : Addr
  fd_Overlap_init : FuncData
  F_Overlap_init : Fun K "__init__" "Overlap.__init__" s_Overlap_init f_Overlap_init fd_Overlap_init
  b_Overlap_init : Binds K fd_Overlap_init ["self", "name"] []
  f_NotInside_init : Addr
  fd_NotInside_init : FuncData
  F_NotInside_init : Fun K "__init__" "NotInside.__init__" s_NotInside_init f_NotInside_init fd_NotInside_init
  b_NotInside_init : Binds K fd_NotInside_init ["self", "at"] []
  f_NotNeighbours_init : Addr
  fd_NotNeighbours_init : FuncData
  F_NotNeighbours_init : Fun K "__init__" "NotNeighbours.__init__" s_NotNeighbours_init f_NotNeighbours_init fd_NotNeighbours_init
  b_NotNeighbours_init : Binds K fd_NotNeighbours_init ["self", "name"] []
  f_NoProgram_init : Addr
  fd_NoProgram_init : FuncData
  F_NoProgram_init : Fun K "__init__" "NoProgram.__init__" s_NoProgram_init f_NoProgram_init fd_NoProgram_init
  b_NoProgram_init : Binds K fd_NoProgram_init ["self", "kind"] []
  f_TooMany_init : Addr
  fd_TooMany_init : FuncData
  F_TooMany_init : Fun K "__init__" "TooMany.__init__" s_TooMany_init f_TooMany_init fd_TooMany_init
  b_TooMany_init : Binds K fd_TooMany_init ["self", "bound"] []
  f_Ended_init : Addr
  fd_Ended_init : FuncData
  F_Ended_init : Fun K "__init__" "Ended.__init__" s_Ended_init f_Ended_init fd_Ended_init
  b_Ended_init : Binds K fd_Ended_init ["self", "number"] []
  f_Waiting_init : Addr
  fd_Waiting_init : FuncData
  F_Waiting_init : Fun K "__init__" "Waiting.__init__" s_Waiting_init f_Waiting_init fd_Waiting_init
  b_Waiting_init : Binds K fd_Waiting_init ["self", "number"] []
  f_law_cell : Addr
  fd_law_cell : FuncData
  F_law_cell : Fun K "_law_cell" "_law_cell" s_law_cell f_law_cell fd_law_cell
  b_law_cell : Binds K fd_law_cell ["_law_script", "_law_k"] []
  m_law_cell : mg "_law_cell" = some (.ref f_law_cell)
  f_law_box : Addr
  fd_law_box : FuncData
  F_law_box : Fun K "_law_box" "_law_box" s_law_box f_law_box fd_law_box
  b_law_box : Binds K fd_law_box ["_law_cell_here"] []
  m_law_box : mg "_law_box" = some (.ref f_law_box)
  f_law_take : Addr
  fd_law_take : FuncData
  F_law_take : Fun K "_law_take" "_law_take" s_law_take f_law_take fd_law_take
  b_law_take : Binds K fd_law_take ["_law_box_here", "_law_many"] []
  m_law_take : mg "_law_take" = some (.ref f_law_take)
  f_law_made : Addr
  fd_law_made : FuncData
  F_law_made : Fun K "_law_made" "_law_made" s_law_made f_law_made fd_law_made
  b_law_made : Binds K fd_law_made ["_law_thing"] []
  m_law_made : mg "_law_made" = some (.ref f_law_made)
  f_law_classes : Addr
  fd_law_classes : FuncData
  F_law_classes : Fun K "_law_classes" "_law_classes" s_law_classes f_law_classes fd_law_classes
  b_law_classes : Binds K fd_law_classes ["_law_error"] []
  m_law_classes : mg "_law_classes" = some (.ref f_law_classes)
  f_law_fields : Addr
  fd_law_fields : FuncData
  F_law_fields : Fun K "_law_fields" "_law_fields" s_law_fields f_law_fields fd_law_fields
  b_law_fields : Binds K fd_law_fields ["_law_made_here"] []
  m_law_fields : mg "_law_fields" = some (.ref f_law_fields)
  f_law_under : Addr
  fd_law_under : FuncData
  F_law_under : Fun K "_law_under" "_law_under" s_law_under f_law_under fd_law_under
  b_law_under : Binds K fd_law_under ["_law_error"] []
  m_law_under : mg "_law_under" = some (.ref f_law_under)
  f_law : Addr
  fd_law : FuncData
  F_law : Fun K "law" "law" s_law f_law fd_law
  b_law : Binds K fd_law ["_law_script"] []
  m_law : mg "law" = some (.ref f_law)
  C_PartsError : Addr
  g_PartsError : mg "PartsError" = some (.ref C_PartsError)
  C_InvalidName : Addr
  g_InvalidName : mg "InvalidName" = some (.ref C_InvalidName)
  x_InvalidName : OexC K C_InvalidName
  y_InvalidName : XfC K C_InvalidName
  n_InvalidName : PySem.W.findIn K (.ref C_InvalidName) "value" = some none
  i_InvalidName : PySem.W.findIn K (.ref C_InvalidName) "__init__" = some (some (.ref f_InvalidName_init))
  t_InvalidName : PySem.W.typeIn K (.ref f_InvalidName_init) = some (.type "function")
  C_InvalidKey : Addr
  g_InvalidKey : mg "InvalidKey" = some (.ref C_InvalidKey)
  x_InvalidKey : OexC K C_InvalidKey
  y_InvalidKey : XfC K C_InvalidKey
  n_InvalidKey : PySem.W.findIn K (.ref C_InvalidKey) "value" = some none
  i_InvalidKey : PySem.W.findIn K (.ref C_InvalidKey) "__init__" = some (some (.ref f_InvalidKey_init))
  t_InvalidKey : PySem.W.typeIn K (.ref f_InvalidKey_init) = some (.type "function")
  C_InvalidSpan : Addr
  g_InvalidSpan : mg "InvalidSpan" = some (.ref C_InvalidSpan)
  x_InvalidSpan : OexC K C_InvalidSpan
  y_InvalidSpan : XfC K C_InvalidSpan
  n_InvalidSpan : PySem.W.findIn K (.ref C_InvalidSpan) "value" = some none
  i_InvalidSpan : PySem.W.findIn K (.ref C_InvalidSpan) "__init__" = some (some (.ref f_InvalidSpan_init))
  t_InvalidSpan : PySem.W.typeIn K (.ref f_InvalidSpan_init) = some (.type "function")
  C_InvalidSpans : Addr
  g_InvalidSpans : mg "InvalidSpans" = some (.ref C_InvalidSpans)
  x_InvalidSpans : OexC K C_InvalidSpans
  y_InvalidSpans : XfC K C_InvalidSpans
  n_InvalidSpans : PySem.W.findIn K (.ref C_InvalidSpans) "value" = some none
  i_InvalidSpans : PySem.W.findIn K (.ref C_InvalidSpans) "__init__" = some (some (.ref f_InvalidSpans_init))
  t_InvalidSpans : PySem.W.typeIn K (.ref f_InvalidSpans_init) = some (.type "function")
  C_InvalidCatalog : Addr
  g_InvalidCatalog : mg "InvalidCatalog" = some (.ref C_InvalidCatalog)
  x_InvalidCatalog : OexC K C_InvalidCatalog
  y_InvalidCatalog : XfC K C_InvalidCatalog
  n_InvalidCatalog : PySem.W.findIn K (.ref C_InvalidCatalog) "value" = some none
  i_InvalidCatalog : PySem.W.findIn K (.ref C_InvalidCatalog) "__init__" = some (some (.ref f_InvalidCatalog_init))
  t_InvalidCatalog : PySem.W.typeIn K (.ref f_InvalidCatalog_init) = some (.type "function")
  C_InvalidChange : Addr
  g_InvalidChange : mg "InvalidChange" = some (.ref C_InvalidChange)
  x_InvalidChange : OexC K C_InvalidChange
  y_InvalidChange : XfC K C_InvalidChange
  n_InvalidChange : PySem.W.findIn K (.ref C_InvalidChange) "value" = some none
  i_InvalidChange : PySem.W.findIn K (.ref C_InvalidChange) "__init__" = some (some (.ref f_InvalidChange_init))
  t_InvalidChange : PySem.W.typeIn K (.ref f_InvalidChange_init) = some (.type "function")
  C_InvalidModes : Addr
  g_InvalidModes : mg "InvalidModes" = some (.ref C_InvalidModes)
  x_InvalidModes : OexC K C_InvalidModes
  y_InvalidModes : XfC K C_InvalidModes
  n_InvalidModes : PySem.W.findIn K (.ref C_InvalidModes) "value" = some none
  i_InvalidModes : PySem.W.findIn K (.ref C_InvalidModes) "__init__" = some (some (.ref f_InvalidModes_init))
  t_InvalidModes : PySem.W.typeIn K (.ref f_InvalidModes_init) = some (.type "function")
  C_InvalidClash : Addr
  g_InvalidClash : mg "InvalidClash" = some (.ref C_InvalidClash)
  x_InvalidClash : OexC K C_InvalidClash
  y_InvalidClash : XfC K C_InvalidClash
  n_InvalidClash : PySem.W.findIn K (.ref C_InvalidClash) "value" = some none
  i_InvalidClash : PySem.W.findIn K (.ref C_InvalidClash) "__init__" = some (some (.ref f_InvalidClash_init))
  t_InvalidClash : PySem.W.typeIn K (.ref f_InvalidClash_init) = some (.type "function")
  C_InvalidStrengths : Addr
  g_InvalidStrengths : mg "InvalidStrengths" = some (.ref C_InvalidStrengths)
  x_InvalidStrengths : OexC K C_InvalidStrengths
  y_InvalidStrengths : XfC K C_InvalidStrengths
  n_InvalidStrengths : PySem.W.findIn K (.ref C_InvalidStrengths) "value" = some none
  i_InvalidStrengths : PySem.W.findIn K (.ref C_InvalidStrengths) "__init__" = some (some (.ref f_InvalidStrengths_init))
  t_InvalidStrengths : PySem.W.typeIn K (.ref f_InvalidStrengths_init) = some (.type "function")
  C_InvalidProgram : Addr
  g_InvalidProgram : mg "InvalidProgram" = some (.ref C_InvalidProgram)
  x_InvalidProgram : OexC K C_InvalidProgram
  y_InvalidProgram : XfC K C_InvalidProgram
  n_InvalidProgram : PySem.W.findIn K (.ref C_InvalidProgram) "value" = some none
  i_InvalidProgram : PySem.W.findIn K (.ref C_InvalidProgram) "__init__" = some (some (.ref f_InvalidProgram_init))
  t_InvalidProgram : PySem.W.typeIn K (.ref f_InvalidProgram_init) = some (.type "function")
  C_InvalidPrograms : Addr
  g_InvalidPrograms : mg "InvalidPrograms" = some (.ref C_InvalidPrograms)
  x_InvalidPrograms : OexC K C_InvalidPrograms
  y_InvalidPrograms : XfC K C_InvalidPrograms
  n_InvalidPrograms : PySem.W.findIn K (.ref C_InvalidPrograms) "value" = some none
  i_InvalidPrograms : PySem.W.findIn K (.ref C_InvalidPrograms) "__init__" = some (some (.ref f_InvalidPrograms_init))
  t_InvalidPrograms : PySem.W.typeIn K (.ref f_InvalidPrograms_init) = some (.type "function")
  C_InvalidProtocol : Addr
  g_InvalidProtocol : mg "InvalidProtocol" = some (.ref C_InvalidProtocol)
  x_InvalidProtocol : OexC K C_InvalidProtocol
  y_InvalidProtocol : XfC K C_InvalidProtocol
  n_InvalidProtocol : PySem.W.findIn K (.ref C_InvalidProtocol) "value" = some none
  i_InvalidProtocol : PySem.W.findIn K (.ref C_InvalidProtocol) "__init__" = some (some (.ref f_InvalidProtocol_init))
  t_InvalidProtocol : PySem.W.typeIn K (.ref f_InvalidProtocol_init) = some (.type "function")
  C_InvalidRows : Addr
  g_InvalidRows : mg "InvalidRows" = some (.ref C_InvalidRows)
  x_InvalidRows : OexC K C_InvalidRows
  y_InvalidRows : XfC K C_InvalidRows
  n_InvalidRows : PySem.W.findIn K (.ref C_InvalidRows) "value" = some none
  i_InvalidRows : PySem.W.findIn K (.ref C_InvalidRows) "__init__" = some (some (.ref f_InvalidRows_init))
  t_InvalidRows : PySem.W.typeIn K (.ref f_InvalidRows_init) = some (.type "function")
  C_InvalidSession : Addr
  g_InvalidSession : mg "InvalidSession" = some (.ref C_InvalidSession)
  x_InvalidSession : OexC K C_InvalidSession
  y_InvalidSession : XfC K C_InvalidSession
  n_InvalidSession : PySem.W.findIn K (.ref C_InvalidSession) "value" = some none
  i_InvalidSession : PySem.W.findIn K (.ref C_InvalidSession) "__init__" = some (some (.ref f_InvalidSession_init))
  t_InvalidSession : PySem.W.typeIn K (.ref f_InvalidSession_init) = some (.type "function")
  C_InvalidNumber : Addr
  g_InvalidNumber : mg "InvalidNumber" = some (.ref C_InvalidNumber)
  x_InvalidNumber : OexC K C_InvalidNumber
  y_InvalidNumber : XfC K C_InvalidNumber
  n_InvalidNumber : PySem.W.findIn K (.ref C_InvalidNumber) "value" = some none
  i_InvalidNumber : PySem.W.findIn K (.ref C_InvalidNumber) "__init__" = some (some (.ref f_InvalidNumber_init))
  t_InvalidNumber : PySem.W.typeIn K (.ref f_InvalidNumber_init) = some (.type "function")
  C_InvalidWeaving : Addr
  g_InvalidWeaving : mg "InvalidWeaving" = some (.ref C_InvalidWeaving)
  x_InvalidWeaving : OexC K C_InvalidWeaving
  y_InvalidWeaving : XfC K C_InvalidWeaving
  n_InvalidWeaving : PySem.W.findIn K (.ref C_InvalidWeaving) "value" = some none
  i_InvalidWeaving : PySem.W.findIn K (.ref C_InvalidWeaving) "__init__" = some (some (.ref f_InvalidWeaving_init))
  t_InvalidWeaving : PySem.W.typeIn K (.ref f_InvalidWeaving_init) = some (.type "function")
  C_InvalidStore : Addr
  g_InvalidStore : mg "InvalidStore" = some (.ref C_InvalidStore)
  x_InvalidStore : OexC K C_InvalidStore
  y_InvalidStore : XfC K C_InvalidStore
  n_InvalidStore : PySem.W.findIn K (.ref C_InvalidStore) "value" = some none
  i_InvalidStore : PySem.W.findIn K (.ref C_InvalidStore) "__init__" = some (some (.ref f_InvalidStore_init))
  t_InvalidStore : PySem.W.typeIn K (.ref f_InvalidStore_init) = some (.type "function")
  C_InvalidScene : Addr
  g_InvalidScene : mg "InvalidScene" = some (.ref C_InvalidScene)
  x_InvalidScene : OexC K C_InvalidScene
  y_InvalidScene : XfC K C_InvalidScene
  n_InvalidScene : PySem.W.findIn K (.ref C_InvalidScene) "value" = some none
  i_InvalidScene : PySem.W.findIn K (.ref C_InvalidScene) "__init__" = some (some (.ref f_InvalidScene_init))
  t_InvalidScene : PySem.W.typeIn K (.ref f_InvalidScene_init) = some (.type "function")
  C_InvalidLog : Addr
  g_InvalidLog : mg "InvalidLog" = some (.ref C_InvalidLog)
  x_InvalidLog : OexC K C_InvalidLog
  y_InvalidLog : XfC K C_InvalidLog
  n_InvalidLog : PySem.W.findIn K (.ref C_InvalidLog) "value" = some none
  i_InvalidLog : PySem.W.findIn K (.ref C_InvalidLog) "__init__" = some (some (.ref f_InvalidLog_init))
  t_InvalidLog : PySem.W.typeIn K (.ref f_InvalidLog_init) = some (.type "function")
  C_InvalidText : Addr
  g_InvalidText : mg "InvalidText" = some (.ref C_InvalidText)
  x_InvalidText : OexC K C_InvalidText
  y_InvalidText : XfC K C_InvalidText
  n_InvalidText : PySem.W.findIn K (.ref C_InvalidText) "value" = some none
  i_InvalidText : PySem.W.findIn K (.ref C_InvalidText) "__init__" = some (some (.ref f_InvalidText_init))
  t_InvalidText : PySem.W.typeIn K (.ref f_InvalidText_init) = some (.type "function")
  C_InvalidCommand : Addr
  g_InvalidCommand : mg "InvalidCommand" = some (.ref C_InvalidCommand)
  x_InvalidCommand : OexC K C_InvalidCommand
  y_InvalidCommand : XfC K C_InvalidCommand
  n_InvalidCommand : PySem.W.findIn K (.ref C_InvalidCommand) "value" = some none
  i_InvalidCommand : PySem.W.findIn K (.ref C_InvalidCommand) "__init__" = some (some (.ref f_InvalidCommand_init))
  t_InvalidCommand : PySem.W.typeIn K (.ref f_InvalidCommand_init) = some (.type "function")
  C_Duplicate : Addr
  g_Duplicate : mg "Duplicate" = some (.ref C_Duplicate)
  x_Duplicate : OexC K C_Duplicate
  y_Duplicate : XfC K C_Duplicate
  n_Duplicate : PySem.W.findIn K (.ref C_Duplicate) "name" = some none
  i_Duplicate : PySem.W.findIn K (.ref C_Duplicate) "__init__" = some (some (.ref f_Duplicate_init))
  t_Duplicate : PySem.W.typeIn K (.ref f_Duplicate_init) = some (.type "function")
  C_UnknownPart : Addr
  g_UnknownPart : mg "UnknownPart" = some (.ref C_UnknownPart)
  x_UnknownPart : OexC K C_UnknownPart
  y_UnknownPart : XfC K C_UnknownPart
  n_UnknownPart : PySem.W.findIn K (.ref C_UnknownPart) "name" = some none
  i_UnknownPart : PySem.W.findIn K (.ref C_UnknownPart) "__init__" = some (some (.ref f_UnknownPart_init))
  t_UnknownPart : PySem.W.typeIn K (.ref f_UnknownPart_init) = some (.type "function")
  C_UnknownMode : Addr
  g_UnknownMode : mg "UnknownMode" = some (.ref C_UnknownMode)
  x_UnknownMode : OexC K C_UnknownMode
  y_UnknownMode : XfC K C_UnknownMode
  n_UnknownMode : PySem.W.findIn K (.ref C_UnknownMode) "name" = some none
  i_UnknownMode : PySem.W.findIn K (.ref C_UnknownMode) "__init__" = some (some (.ref f_UnknownMode_init))
  t_UnknownMode : PySem.W.typeIn K (.ref f_UnknownMode_init) = some (.type "function")
  C_UnknownEntry : Addr
  g_UnknownEntry : mg "UnknownEntry" = some (.ref C_UnknownEntry)
  x_UnknownEntry : OexC K C_UnknownEntry
  y_UnknownEntry : XfC K C_UnknownEntry
  n_UnknownEntry : PySem.W.findIn K (.ref C_UnknownEntry) "name" = some none
  i_UnknownEntry : PySem.W.findIn K (.ref C_UnknownEntry) "__init__" = some (some (.ref f_UnknownEntry_init))
  t_UnknownEntry : PySem.W.typeIn K (.ref f_UnknownEntry_init) = some (.type "function")
  C_NameTaken : Addr
  g_NameTaken : mg "NameTaken" = some (.ref C_NameTaken)
  x_NameTaken : OexC K C_NameTaken
  y_NameTaken : XfC K C_NameTaken
  n_NameTaken : PySem.W.findIn K (.ref C_NameTaken) "name" = some none
  i_NameTaken : PySem.W.findIn K (.ref C_NameTaken) "__init__" = some (some (.ref f_NameTaken_init))
  t_NameTaken : PySem.W.typeIn K (.ref f_NameTaken_init) = some (.type "function")
  C_Overlap : Addr
  g_Overlap : mg "Overlap" = some (.ref C_Overlap)
  x_Overlap : OexC K C_Overlap
  y_Overlap : XfC K C_Overlap
  n_Overlap : PySem.W.findIn K (.ref C_Overlap) "name" = some none
  i_Overlap : PySem.W.findIn K (.ref C_Overlap) "__init__" = some (some (.ref f_Overlap_init))
  t_Overlap : PySem.W.typeIn K (.ref f_Overlap_init) = some (.type "function")
  C_NotInside : Addr
  g_NotInside : mg "NotInside" = some (.ref C_NotInside)
  x_NotInside : OexC K C_NotInside
  y_NotInside : XfC K C_NotInside
  n_NotInside : PySem.W.findIn K (.ref C_NotInside) "at" = some none
  i_NotInside : PySem.W.findIn K (.ref C_NotInside) "__init__" = some (some (.ref f_NotInside_init))
  t_NotInside : PySem.W.typeIn K (.ref f_NotInside_init) = some (.type "function")
  C_NotNeighbours : Addr
  g_NotNeighbours : mg "NotNeighbours" = some (.ref C_NotNeighbours)
  x_NotNeighbours : OexC K C_NotNeighbours
  y_NotNeighbours : XfC K C_NotNeighbours
  n_NotNeighbours : PySem.W.findIn K (.ref C_NotNeighbours) "name" = some none
  i_NotNeighbours : PySem.W.findIn K (.ref C_NotNeighbours) "__init__" = some (some (.ref f_NotNeighbours_init))
  t_NotNeighbours : PySem.W.typeIn K (.ref f_NotNeighbours_init) = some (.type "function")
  C_NoProgram : Addr
  g_NoProgram : mg "NoProgram" = some (.ref C_NoProgram)
  x_NoProgram : OexC K C_NoProgram
  y_NoProgram : XfC K C_NoProgram
  n_NoProgram : PySem.W.findIn K (.ref C_NoProgram) "kind" = some none
  i_NoProgram : PySem.W.findIn K (.ref C_NoProgram) "__init__" = some (some (.ref f_NoProgram_init))
  t_NoProgram : PySem.W.typeIn K (.ref f_NoProgram_init) = some (.type "function")
  C_TooMany : Addr
  g_TooMany : mg "TooMany" = some (.ref C_TooMany)
  x_TooMany : OexC K C_TooMany
  y_TooMany : XfC K C_TooMany
  n_TooMany : PySem.W.findIn K (.ref C_TooMany) "bound" = some none
  i_TooMany : PySem.W.findIn K (.ref C_TooMany) "__init__" = some (some (.ref f_TooMany_init))
  t_TooMany : PySem.W.typeIn K (.ref f_TooMany_init) = some (.type "function")
  C_Ended : Addr
  g_Ended : mg "Ended" = some (.ref C_Ended)
  x_Ended : OexC K C_Ended
  y_Ended : XfC K C_Ended
  n_Ended : PySem.W.findIn K (.ref C_Ended) "number" = some none
  i_Ended : PySem.W.findIn K (.ref C_Ended) "__init__" = some (some (.ref f_Ended_init))
  t_Ended : PySem.W.typeIn K (.ref f_Ended_init) = some (.type "function")
  C_Waiting : Addr
  g_Waiting : mg "Waiting" = some (.ref C_Waiting)
  x_Waiting : OexC K C_Waiting
  y_Waiting : XfC K C_Waiting
  n_Waiting : PySem.W.findIn K (.ref C_Waiting) "number" = some none
  i_Waiting : PySem.W.findIn K (.ref C_Waiting) "__init__" = some (some (.ref f_Waiting_init))
  t_Waiting : PySem.W.typeIn K (.ref f_Waiting_init) = some (.type "function")
  C_NothingBad : Addr
  g_NothingBad : mg "NothingBad" = some (.ref C_NothingBad)
  C_NotRight : Addr
  g_NotRight : mg "NotRight" = some (.ref C_NotRight)
  C_NoStore : Addr
  g_NoStore : mg "NoStore" = some (.ref C_NoStore)
  C_NothingToUndo : Addr
  g_NothingToUndo : mg "NothingToUndo" = some (.ref C_NothingToUndo)
  C_NothingToRedo : Addr
  g_NothingToRedo : mg "NothingToRedo" = some (.ref C_NothingToRedo)
  q_PartsError : PySem.W.excIn K C_PartsError [.type "ValueError", .type "Exception", .type "BaseException", .type "object"] "ValueError.__new__" = true
  kp_PartsError : PySem.W.keepIn K (.ref C_PartsError) = true
  q_NothingBad : PySem.W.excIn K C_NothingBad [.type "ValueError", .type "Exception", .type "BaseException", .type "object"] "ValueError.__new__" = true
  kp_NothingBad : PySem.W.keepIn K (.ref C_NothingBad) = true
  q_NotRight : PySem.W.excIn K C_NotRight [.type "ValueError", .type "Exception", .type "BaseException", .type "object"] "ValueError.__new__" = true
  kp_NotRight : PySem.W.keepIn K (.ref C_NotRight) = true
  q_NoStore : PySem.W.excIn K C_NoStore [.type "ValueError", .type "Exception", .type "BaseException", .type "object"] "ValueError.__new__" = true
  kp_NoStore : PySem.W.keepIn K (.ref C_NoStore) = true
  q_NothingToUndo : PySem.W.excIn K C_NothingToUndo [.type "ValueError", .type "Exception", .type "BaseException", .type "object"] "ValueError.__new__" = true
  kp_NothingToUndo : PySem.W.keepIn K (.ref C_NothingToUndo) = true
  q_NothingToRedo : PySem.W.excIn K C_NothingToRedo [.type "ValueError", .type "Exception", .type "BaseException", .type "object"] "ValueError.__new__" = true
  kp_NothingToRedo : PySem.W.keepIn K (.ref C_NothingToRedo) = true
  ke : kitsE K (C_PartsError :: [C_InvalidName, C_InvalidKey, C_InvalidSpan, C_InvalidSpans, C_InvalidCatalog, C_InvalidChange, C_InvalidModes, C_InvalidClash, C_InvalidStrengths, C_InvalidProgram, C_InvalidPrograms, C_InvalidProtocol, C_InvalidRows, C_InvalidSession, C_InvalidNumber, C_InvalidWeaving, C_InvalidStore, C_InvalidScene, C_InvalidLog, C_InvalidText, C_InvalidCommand, C_Duplicate, C_UnknownPart, C_UnknownMode, C_UnknownEntry, C_NameTaken, C_Overlap, C_NotInside, C_NotNeighbours, C_NoProgram, C_TooMany, C_Ended, C_Waiting, C_NothingBad, C_NotRight, C_NoStore, C_NothingToUndo, C_NothingToRedo]) = true
  tab : kitTab K [C_InvalidName, C_InvalidKey, C_InvalidSpan, C_InvalidSpans, C_InvalidCatalog, C_InvalidChange, C_InvalidModes, C_InvalidClash, C_InvalidStrengths, C_InvalidProgram, C_InvalidPrograms, C_InvalidProtocol, C_InvalidRows, C_InvalidSession, C_InvalidNumber, C_InvalidWeaving, C_InvalidStore, C_InvalidScene, C_InvalidLog, C_InvalidText, C_InvalidCommand, C_Duplicate, C_UnknownPart, C_UnknownMode, C_UnknownEntry, C_NameTaken, C_Overlap, C_NotInside, C_NotNeighbours, C_NoProgram, C_TooMany, C_Ended, C_Waiting, C_NothingBad, C_NotRight, C_NoStore, C_NothingToUndo, C_NothingToRedo] = true
  tabP : kitRow K C_PartsError [C_InvalidName, C_InvalidKey, C_InvalidSpan, C_InvalidSpans, C_InvalidCatalog, C_InvalidChange, C_InvalidModes, C_InvalidClash, C_InvalidStrengths, C_InvalidProgram, C_InvalidPrograms, C_InvalidProtocol, C_InvalidRows, C_InvalidSession, C_InvalidNumber, C_InvalidWeaving, C_InvalidStore, C_InvalidScene, C_InvalidLog, C_InvalidText, C_InvalidCommand, C_Duplicate, C_UnknownPart, C_UnknownMode, C_UnknownEntry, C_NameTaken, C_Overlap, C_NotInside, C_NotNeighbours, C_NoProgram, C_TooMany, C_Ended, C_Waiting, C_NothingBad, C_NotRight, C_NoStore, C_NothingToUndo, C_NothingToRedo] = true
  ups : kitUps K C_PartsError (C_PartsError :: [C_InvalidName, C_InvalidKey, C_InvalidSpan, C_InvalidSpans, C_InvalidCatalog, C_InvalidChange, C_InvalidModes, C_InvalidClash, C_InvalidStrengths, C_InvalidProgram, C_InvalidPrograms, C_InvalidProtocol, C_InvalidRows, C_InvalidSession, C_InvalidNumber, C_InvalidWeaving, C_InvalidStore, C_InvalidScene, C_InvalidLog, C_InvalidText, C_InvalidCommand, C_Duplicate, C_UnknownPart, C_UnknownMode, C_UnknownEntry, C_NameTaken, C_Overlap, C_NotInside, C_NotNeighbours, C_NoProgram, C_TooMany, C_Ended, C_Waiting, C_NothingBad, C_NotRight, C_NoStore, C_NothingToUndo, C_NothingToRedo]) = true
  z_len : mg "len" = none
  z_max : mg "max" = none
  z_isinstance : mg "isinstance" = none
  z_range : mg "range" = none
  z_ValueError : mg "ValueError" = none
  z_KeyError : mg "KeyError" = none
  z_IndexError : mg "IndexError" = none
  z_TypeError : mg "TypeError" = none
  z_min : mg "min" = none
  z_bool : mg "bool" = none

section
variable {P : Program} {w : World} {K : PySem.W.Frag} {mg : Str → Option Value} {base : Heap}
/-- the classes in the order of the law -/
def Cs (T : Txt K mg) : List Addr := [T.C_InvalidName, T.C_InvalidKey, T.C_InvalidSpan, T.C_InvalidSpans, T.C_InvalidCatalog, T.C_InvalidChange, T.C_InvalidModes, T.C_InvalidClash, T.C_InvalidStrengths, T.C_InvalidProgram, T.C_InvalidPrograms, T.C_InvalidProtocol, T.C_InvalidRows, T.C_InvalidSession, T.C_InvalidNumber, T.C_InvalidWeaving, T.C_InvalidStore, T.C_InvalidScene, T.C_InvalidLog, T.C_InvalidText, T.C_InvalidCommand, T.C_Duplicate, T.C_UnknownPart, T.C_UnknownMode, T.C_UnknownEntry, T.C_NameTaken, T.C_Overlap, T.C_NotInside, T.C_NotNeighbours, T.C_NoProgram, T.C_TooMany, T.C_Ended, T.C_Waiting, T.C_NothingBad, T.C_NotRight, T.C_NoStore, T.C_NothingToUndo, T.C_NothingToRedo]
def Ps (T : Txt K mg) : List (Addr × Option Str) := [(T.C_InvalidName, some ("value" : Str)), (T.C_InvalidKey, some ("value" : Str)), (T.C_InvalidSpan, some ("value" : Str)), (T.C_InvalidSpans, some ("value" : Str)), (T.C_InvalidCatalog, some ("value" : Str)), (T.C_InvalidChange, some ("value" : Str)), (T.C_InvalidModes, some ("value" : Str)), (T.C_InvalidClash, some ("value" : Str)), (T.C_InvalidStrengths, some ("value" : Str)), (T.C_InvalidProgram, some ("value" : Str)), (T.C_InvalidPrograms, some ("value" : Str)), (T.C_InvalidProtocol, some ("value" : Str)), (T.C_InvalidRows, some ("value" : Str)), (T.C_InvalidSession, some ("value" : Str)), (T.C_InvalidNumber, some ("value" : Str)), (T.C_InvalidWeaving, some ("value" : Str)), (T.C_InvalidStore, some ("value" : Str)), (T.C_InvalidScene, some ("value" : Str)), (T.C_InvalidLog, some ("value" : Str)), (T.C_InvalidText, some ("value" : Str)), (T.C_InvalidCommand, some ("value" : Str)), (T.C_Duplicate, some ("name" : Str)), (T.C_UnknownPart, some ("name" : Str)), (T.C_UnknownMode, some ("name" : Str)), (T.C_UnknownEntry, some ("name" : Str)), (T.C_NameTaken, some ("name" : Str)), (T.C_Overlap, some ("name" : Str)), (T.C_NotInside, some ("at" : Str)), (T.C_NotNeighbours, some ("name" : Str)), (T.C_NoProgram, some ("kind" : Str)), (T.C_TooMany, some ("bound" : Str)), (T.C_Ended, some ("number" : Str)), (T.C_Waiting, some ("number" : Str)), (T.C_NothingBad, none), (T.C_NotRight, none), (T.C_NoStore, none), (T.C_NothingToUndo, none), (T.C_NothingToRedo, none)]
theorem ok_law_cell (T : Txt K mg) : FnOk P w K mg base CX0 1 T.f_law_cell T.fd_law_cell ["_law_script", "_law_k"] (sp_law_cell K) := by
  refine T.F_law_cell.ok sc_law_cell (fun vs H Q E h => ?_) (fun cdv A outer s H vs Q E hr h => ?_)
  · obtain ⟨a, ns, k, rfl, _⟩ := h
    rfl
  · obtain ⟨a, ns, k, rfl, hS, hk, kq⟩ := h
    refine ⟨_, (pss_cons (ps_if (pt_cmpR op_lt (pv 1) (pe_callB (id := "len") call_len_seq (by rfl) T.z_len (by decide +kernel) (pa_cons (pv 0) pa_nil)) (nomark _)) (pss_one (ps_ret (pe_ix ix_list (pv 0) (pv 1) (fun _ _ => rfl)))) pss_nil)
        (pss_one (ps_ret (pe_op op_add (pe_op op_mul pe_int (pv 1)) pe_int)))), ?_⟩
    refine ⟨_, rfl, _, rfl, a, _, rfl, .inl hS, _, _, rfl, rfl, _, rfl, ?_⟩
    refine ite2 (fun c => ?_) (fun c => ?_)
    · have c' := of_decide_eq_true c
      rw [List.length_map] at c'
      obtain ⟨j, rfl⟩ := Int.eq_ofNat_of_zero_le hk
      have hj : j < ns.length := by omega
      refine ⟨_, rfl, _, rfl, a, _, _, .int ns[j], rfl, rfl, hS, atI_nat (by rw [List.getElem?_map, List.getElem?_eq_getElem hj]; rfl), kq _⟩
    · refine ⟨_, rfl, _, _, rfl, rfl, .inl ⟨by decide, by decide⟩, _, _, rfl, rfl, kq _⟩
theorem ok_law_box (T : Txt K mg) : FnOk P w K mg base CX0 1 T.f_law_box T.fd_law_box ["_law_cell_here"] sp_law_box := by
  refine T.F_law_box.ok sc_law_box (fun vs H Q E h => ?_) (fun cdv A outer s H vs Q E hr h => ?_)
  · obtain ⟨z, rfl, _⟩ := h
    rfl
  · obtain ⟨z, rfl, k⟩ := h
    refine ⟨_, (pss_one (ps_ret (pe_lst (pa_cons (pe_callB (id := "max") (call_max2 rfl) (by rfl) T.z_max (by decide +kernel) (pa_cons pe_int (pa_cons (pe_op op_sub (pv 0) (pe_op op_pow pe_int pe_int)) pa_nil))) (pa_cons (pe_op op_mod (pv 0) pe_int) (pa_cons pe_int pa_nil)))))), ?_⟩
    refine ⟨_, rfl, _, _, rfl, rfl, ⟨by decide, by decide, by decide⟩, _, _, rfl, rfl, _, _, rfl, ?_⟩
    refine ⟨_, rfl, _, _, rfl, rfl, (by show (0 : Int) < 2147483629; decide), (by show 3 ≤ sizeLine; decide), fun p hp => ?_⟩
    refine k p _ hp ⟨_, _, _, upd_same, ?_, Int.emod_nonneg _ (by decide), Int.emod_lt_of_pos _ (by decide), by decide, by decide⟩
    by_cases c : z - 10 ^ (18 : Int).toNat > 0
    · rw [if_pos c]
      omega
    · rw [if_neg c]
      exact Int.le_refl _
theorem ok_law_take (T : Txt K mg) : FnOk P w K mg base CX0 1 T.f_law_take T.fd_law_take ["_law_box_here", "_law_many"] sp_law_take := by
  refine T.F_law_take.ok sc_law_take (fun vs H Q E h => ?_) (fun cdv A outer s H vs Q E hr h => ?_)
  · obtain ⟨H0, p, n, m, rfl, _⟩ := h
    rfl
  · obtain ⟨H0, p, n, m, rfl, B, hn, hm, hm2, k⟩ := h
    obtain ⟨d, s, c, hp, hd, hs, hs2, hc, hc2⟩ := B.box
    have hL : SqL K H p [.int d, .int s, .int c] := SqL.of hp
    have nx : ∀ (d' c' : Int), 0 ≤ d' → 0 ≤ c' → c' ≤ c + 1 → BoxIn H0 (upd H p (.lst [.int d', .int s, .int c'])) p (n + 1) := fun d' c' h1 h2 h3 =>
      ⟨fun x u e => by rw [upd_ne (ne_of_none e B.free)]; exact B.same _ _ e, B.free, d', s, c', upd_same, h1, hs, hs2, h2, by omega⟩
    refine ⟨_, (pss_cons (ps_if (pt_cmpR op_gt (pe_ix ix_list (pv 0) pe_int (fun _ _ => rfl)) pe_int (nomark _)) (pss_cons (ps_set (i := 2) sc_law_take.nd rfl (Or.inl rfl) (pe_op op_mod (pe_ix ix_list (pv 0) pe_int (fun _ _ => rfl)) (pv 1)))
        (pss_cons (ps_asg (pe_op op_fdiv (pe_ix ix_list (pv 0) pe_int (fun _ _ => rfl)) (pv 1)) (pg_sub (pv 0) pe_int set_list))
        (pss_one (ps_ret (pv 2))))) pss_nil)
        (pss_cons (ps_asg (pe_op op_add (pe_ix ix_list (pv 0) pe_int (fun _ _ => rfl)) pe_int) (pg_sub (pv 0) pe_int set_list))
        (pss_cons (ps_set (i := 3) sc_law_take.nd rfl (Or.inl rfl) (pe_op op_mod (pe_op op_pow (pe_op op_add (pe_op op_add (pe_ix ix_list (pv 0) pe_int (fun _ _ => rfl)) (pe_op op_mul pe_int (pe_ix ix_list (pv 0) pe_int (fun _ _ => rfl)))) pe_int) pe_int) pe_int))
        (pss_cons (ps_set (i := 3) sc_law_take.nd rfl (Or.inl rfl) (pe_op op_mod (pe_op op_pow (pe_op op_add (pv 3) (pe_op op_mul pe_int (pe_ix ix_list (pv 0) pe_int (fun _ _ => rfl)))) pe_int) pe_int))
        (pss_one (ps_ret (pe_op op_mod (pe_op op_fdiv (pv 3) pe_int) (pv 1)))))))), ?_⟩
    refine ⟨_, rfl, p, _, _, _, rfl, rfl, hL, atI_nat (j := 0) rfl, _, _, rfl, rfl, _, rfl, ?_⟩
    refine ite2 (fun c0 => ?_) (fun c0 => ?_)
    · have c0' := of_decide_eq_true c0
      refine ⟨_, rfl, p, _, _, _, rfl, rfl, hL, atI_nat (j := 0) rfl, _, rfl, _, _, rfl, rfl, hm, ?_⟩
      refine ⟨_, rfl, p, _, _, _, rfl, rfl, hL, atI_nat (j := 0) rfl, _, rfl, _, _, rfl, rfl, ⟨hm, by omega⟩, ?_⟩
      refine ⟨_, rfl, p, _, _, 0, rfl, rfl, hp, rfl, ?_⟩
      refine ⟨_, rfl, k _ _ (Int.emod_nonneg _ (by omega)) (Int.emod_lt_of_pos _ hm) (nx _ _ (Int.ediv_nonneg hd (by omega)) hc (by omega))⟩
    · refine ⟨_, rfl, p, _, _, _, rfl, rfl, hL, atI_nat (j := 2) rfl, _, _, rfl, rfl, ?_⟩
      refine ⟨_, rfl, p, _, _, 2, rfl, rfl, hp, rfl, ?_⟩
      have hL' : SqL K (upd H p (.lst [.int d, .int s, .int (c + 1)])) p [.int d, .int s, .int (c + 1)] := SqL.of upd_same
      refine ⟨_, rfl, p, _, _, _, rfl, rfl, hL', atI_nat (j := 1) rfl, _, rfl, p, _, _, _, rfl, rfl, hL', atI_nat (j := 2) rfl, _, _, rfl, rfl, .inl ⟨by decide, by decide⟩, _, _, rfl, rfl, _, _, rfl, rfl, _, _, rfl, rfl, ⟨by decide, by decide, by omega⟩, _, _, rfl, rfl, (by show (0 : Int) < 2147483647; decide), ?_⟩
      have h1 := Int.emod_nonneg ((s + 7919 * (c + 1) + 43) ^ (5 : Int).toNat) (show (2147483647 : Int) ≠ 0 by decide)
      have h2 := Int.emod_lt_of_pos ((s + 7919 * (c + 1) + 43) ^ (5 : Int).toNat) (show (0 : Int) < 2147483647 by decide)
      refine ⟨_, rfl, _, rfl, p, _, _, _, rfl, rfl, hL', atI_nat (j := 2) rfl, _, _, rfl, rfl, .inl ⟨by decide, by decide⟩, _, _, rfl, rfl, _, _, rfl, rfl, ⟨by decide, by decide, by omega⟩, _, _, rfl, rfl, (by show (0 : Int) < 2147483587; decide), ?_⟩
      refine ⟨_, rfl, _, _, rfl, rfl, ⟨by decide, by decide⟩, _, rfl, _, _, rfl, rfl, hm, ?_⟩
      exact k _ _ (Int.emod_nonneg _ (by omega)) (Int.emod_lt_of_pos _ hm) (nx _ _ hd (by omega) (by omega))
theorem ok_InvalidName_init (T : Txt K mg) : FnOk P w K mg base CX0 1 T.f_InvalidName_init T.fd_InvalidName_init ["self", "value"] (sp_xinit K T.C_InvalidName "value") := by
  refine T.F_InvalidName_init.ok sc_InvalidName_init (fun vs H Q E h => ?_) (fun cdv A outer s H vs Q E hr h => ?_)
  · obtain ⟨a, v, rfl, _⟩ := h
    rfl
  · obtain ⟨a, v, rfl, x, n, ha, k⟩ := h
    refine ⟨_, (pss_one (ps_ost (pv 0) (pv 1))), ?_⟩
    exact ⟨_, rfl, _, rfl, a, T.C_InvalidName, rfl, x, n, .inl ⟨ha, k⟩⟩
theorem ok_InvalidKey_init (T : Txt K mg) : FnOk P w K mg base CX0 1 T.f_InvalidKey_init T.fd_InvalidKey_init ["self", "value"] (sp_xinit K T.C_InvalidKey "value") := by
  refine T.F_InvalidKey_init.ok sc_InvalidKey_init (fun vs H Q E h => ?_) (fun cdv A outer s H vs Q E hr h => ?_)
  · obtain ⟨a, v, rfl, _⟩ := h
    rfl
  · obtain ⟨a, v, rfl, x, n, ha, k⟩ := h
    refine ⟨_, (pss_one (ps_ost (pv 0) (pv 1))), ?_⟩
    exact ⟨_, rfl, _, rfl, a, T.C_InvalidKey, rfl, x, n, .inl ⟨ha, k⟩⟩
theorem ok_InvalidSpan_init (T : Txt K mg) : FnOk P w K mg base CX0 1 T.f_InvalidSpan_init T.fd_InvalidSpan_init ["self", "value"] (sp_xinit K T.C_InvalidSpan "value") := by
  refine T.F_InvalidSpan_init.ok sc_InvalidSpan_init (fun vs H Q E h => ?_) (fun cdv A outer s H vs Q E hr h => ?_)
  · obtain ⟨a, v, rfl, _⟩ := h
    rfl
  · obtain ⟨a, v, rfl, x, n, ha, k⟩ := h
    refine ⟨_, (pss_one (ps_ost (pv 0) (pv 1))), ?_⟩
    exact ⟨_, rfl, _, rfl, a, T.C_InvalidSpan, rfl, x, n, .inl ⟨ha, k⟩⟩
theorem ok_InvalidSpans_init (T : Txt K mg) : FnOk P w K mg base CX0 1 T.f_InvalidSpans_init T.fd_InvalidSpans_init ["self", "value"] (sp_xinit K T.C_InvalidSpans "value") := by
  refine T.F_InvalidSpans_init.ok sc_InvalidSpans_init (fun vs H Q E h => ?_) (fun cdv A outer s H vs Q E hr h => ?_)
  · obtain ⟨a, v, rfl, _⟩ := h
    rfl
  · obtain ⟨a, v, rfl, x, n, ha, k⟩ := h
    refine ⟨_, (pss_one (ps_ost (pv 0) (pv 1))), ?_⟩
    exact ⟨_, rfl, _, rfl, a, T.C_InvalidSpans, rfl, x, n, .inl ⟨ha, k⟩⟩
theorem ok_InvalidCatalog_init (T : Txt K mg) : FnOk P w K mg base CX0 1 T.f_InvalidCatalog_init T.fd_InvalidCatalog_init ["self", "value"] (sp_xinit K T.C_InvalidCatalog "value") := by
  refine T.F_InvalidCatalog_init.ok sc_InvalidCatalog_init (fun vs H Q E h => ?_) (fun cdv A outer s H vs Q E hr h => ?_)
  · obtain ⟨a, v, rfl, _⟩ := h
    rfl
  · obtain ⟨a, v, rfl, x, n, ha, k⟩ := h
    refine ⟨_, (pss_one (ps_ost (pv 0) (pv 1))), ?_⟩
    exact ⟨_, rfl, _, rfl, a, T.C_InvalidCatalog, rfl, x, n, .inl ⟨ha, k⟩⟩
theorem ok_InvalidChange_init (T : Txt K mg) : FnOk P w K mg base CX0 1 T.f_InvalidChange_init T.fd_InvalidChange_init ["self", "value"] (sp_xinit K T.C_InvalidChange "value") := by
  refine T.F_InvalidChange_init.ok sc_InvalidChange_init (fun vs H Q E h => ?_) (fun cdv A outer s H vs Q E hr h => ?_)
  · obtain ⟨a, v, rfl, _⟩ := h
    rfl
  · obtain ⟨a, v, rfl, x, n, ha, k⟩ := h
    refine ⟨_, (pss_one (ps_ost (pv 0) (pv 1))), ?_⟩
    exact ⟨_, rfl, _, rfl, a, T.C_InvalidChange, rfl, x, n, .inl ⟨ha, k⟩⟩
theorem ok_InvalidModes_init (T : Txt K mg) : FnOk P w K mg base CX0 1 T.f_InvalidModes_init T.fd_InvalidModes_init ["self", "value"] (sp_xinit K T.C_InvalidModes "value") := by
  refine T.F_InvalidModes_init.ok sc_InvalidModes_init (fun vs H Q E h => ?_) (fun cdv A outer s H vs Q E hr h => ?_)
  · obtain ⟨a, v, rfl, _⟩ := h
    rfl
  · obtain ⟨a, v, rfl, x, n, ha, k⟩ := h
    refine ⟨_, (pss_one (ps_ost (pv 0) (pv 1))), ?_⟩
    exact ⟨_, rfl, _, rfl, a, T.C_InvalidModes, rfl, x, n, .inl ⟨ha, k⟩⟩
theorem ok_InvalidClash_init (T : Txt K mg) : FnOk P w K mg base CX0 1 T.f_InvalidClash_init T.fd_InvalidClash_init ["self", "value"] (sp_xinit K T.C_InvalidClash "value") := by
  refine T.F_InvalidClash_init.ok sc_InvalidClash_init (fun vs H Q E h => ?_) (fun cdv A outer s H vs Q E hr h => ?_)
  · obtain ⟨a, v, rfl, _⟩ := h
    rfl
  · obtain ⟨a, v, rfl, x, n, ha, k⟩ := h
    refine ⟨_, (pss_one (ps_ost (pv 0) (pv 1))), ?_⟩
    exact ⟨_, rfl, _, rfl, a, T.C_InvalidClash, rfl, x, n, .inl ⟨ha, k⟩⟩
theorem ok_InvalidStrengths_init (T : Txt K mg) : FnOk P w K mg base CX0 1 T.f_InvalidStrengths_init T.fd_InvalidStrengths_init ["self", "value"] (sp_xinit K T.C_InvalidStrengths "value") := by
  refine T.F_InvalidStrengths_init.ok sc_InvalidStrengths_init (fun vs H Q E h => ?_) (fun cdv A outer s H vs Q E hr h => ?_)
  · obtain ⟨a, v, rfl, _⟩ := h
    rfl
  · obtain ⟨a, v, rfl, x, n, ha, k⟩ := h
    refine ⟨_, (pss_one (ps_ost (pv 0) (pv 1))), ?_⟩
    exact ⟨_, rfl, _, rfl, a, T.C_InvalidStrengths, rfl, x, n, .inl ⟨ha, k⟩⟩
theorem ok_InvalidProgram_init (T : Txt K mg) : FnOk P w K mg base CX0 1 T.f_InvalidProgram_init T.fd_InvalidProgram_init ["self", "value"] (sp_xinit K T.C_InvalidProgram "value") := by
  refine T.F_InvalidProgram_init.ok sc_InvalidProgram_init (fun vs H Q E h => ?_) (fun cdv A outer s H vs Q E hr h => ?_)
  · obtain ⟨a, v, rfl, _⟩ := h
    rfl
  · obtain ⟨a, v, rfl, x, n, ha, k⟩ := h
    refine ⟨_, (pss_one (ps_ost (pv 0) (pv 1))), ?_⟩
    exact ⟨_, rfl, _, rfl, a, T.C_InvalidProgram, rfl, x, n, .inl ⟨ha, k⟩⟩
theorem ok_InvalidPrograms_init (T : Txt K mg) : FnOk P w K mg base CX0 1 T.f_InvalidPrograms_init T.fd_InvalidPrograms_init ["self", "value"] (sp_xinit K T.C_InvalidPrograms "value") := by
  refine T.F_InvalidPrograms_init.ok sc_InvalidPrograms_init (fun vs H Q E h => ?_) (fun cdv A outer s H vs Q E hr h => ?_)
  · obtain ⟨a, v, rfl, _⟩ := h
    rfl
  · obtain ⟨a, v, rfl, x, n, ha, k⟩ := h
    refine ⟨_, (pss_one (ps_ost (pv 0) (pv 1))), ?_⟩
    exact ⟨_, rfl, _, rfl, a, T.C_InvalidPrograms, rfl, x, n, .inl ⟨ha, k⟩⟩
theorem ok_InvalidProtocol_init (T : Txt K mg) : FnOk P w K mg base CX0 1 T.f_InvalidProtocol_init T.fd_InvalidProtocol_init ["self", "value"] (sp_xinit K T.C_InvalidProtocol "value") := by
  refine T.F_InvalidProtocol_init.ok sc_InvalidProtocol_init (fun vs H Q E h => ?_) (fun cdv A outer s H vs Q E hr h => ?_)
  · obtain ⟨a, v, rfl, _⟩ := h
    rfl
  · obtain ⟨a, v, rfl, x, n, ha, k⟩ := h
    refine ⟨_, (pss_one (ps_ost (pv 0) (pv 1))), ?_⟩
    exact ⟨_, rfl, _, rfl, a, T.C_InvalidProtocol, rfl, x, n, .inl ⟨ha, k⟩⟩
theorem ok_InvalidRows_init (T : Txt K mg) : FnOk P w K mg base CX0 1 T.f_InvalidRows_init T.fd_InvalidRows_init ["self", "value"] (sp_xinit K T.C_InvalidRows "value") := by
  refine T.F_InvalidRows_init.ok sc_InvalidRows_init (fun vs H Q E h => ?_) (fun cdv A outer s H vs Q E hr h => ?_)
  · obtain ⟨a, v, rfl, _⟩ := h
    rfl
  · obtain ⟨a, v, rfl, x, n, ha, k⟩ := h
    refine ⟨_, (pss_one (ps_ost (pv 0) (pv 1))), ?_⟩
    exact ⟨_, rfl, _, rfl, a, T.C_InvalidRows, rfl, x, n, .inl ⟨ha, k⟩⟩
theorem ok_InvalidSession_init (T : Txt K mg) : FnOk P w K mg base CX0 1 T.f_InvalidSession_init T.fd_InvalidSession_init ["self", "value"] (sp_xinit K T.C_InvalidSession "value") := by
  refine T.F_InvalidSession_init.ok sc_InvalidSession_init (fun vs H Q E h => ?_) (fun cdv A outer s H vs Q E hr h => ?_)
  · obtain ⟨a, v, rfl, _⟩ := h
    rfl
  · obtain ⟨a, v, rfl, x, n, ha, k⟩ := h
    refine ⟨_, (pss_one (ps_ost (pv 0) (pv 1))), ?_⟩
    exact ⟨_, rfl, _, rfl, a, T.C_InvalidSession, rfl, x, n, .inl ⟨ha, k⟩⟩
theorem ok_InvalidNumber_init (T : Txt K mg) : FnOk P w K mg base CX0 1 T.f_InvalidNumber_init T.fd_InvalidNumber_init ["self", "value"] (sp_xinit K T.C_InvalidNumber "value") := by
  refine T.F_InvalidNumber_init.ok sc_InvalidNumber_init (fun vs H Q E h => ?_) (fun cdv A outer s H vs Q E hr h => ?_)
  · obtain ⟨a, v, rfl, _⟩ := h
    rfl
  · obtain ⟨a, v, rfl, x, n, ha, k⟩ := h
    refine ⟨_, (pss_one (ps_ost (pv 0) (pv 1))), ?_⟩
    exact ⟨_, rfl, _, rfl, a, T.C_InvalidNumber, rfl, x, n, .inl ⟨ha, k⟩⟩
theorem ok_InvalidWeaving_init (T : Txt K mg) : FnOk P w K mg base CX0 1 T.f_InvalidWeaving_init T.fd_InvalidWeaving_init ["self", "value"] (sp_xinit K T.C_InvalidWeaving "value") := by
  refine T.F_InvalidWeaving_init.ok sc_InvalidWeaving_init (fun vs H Q E h => ?_) (fun cdv A outer s H vs Q E hr h => ?_)
  · obtain ⟨a, v, rfl, _⟩ := h
    rfl
  · obtain ⟨a, v, rfl, x, n, ha, k⟩ := h
    refine ⟨_, (pss_one (ps_ost (pv 0) (pv 1))), ?_⟩
    exact ⟨_, rfl, _, rfl, a, T.C_InvalidWeaving, rfl, x, n, .inl ⟨ha, k⟩⟩
theorem ok_InvalidStore_init (T : Txt K mg) : FnOk P w K mg base CX0 1 T.f_InvalidStore_init T.fd_InvalidStore_init ["self", "value"] (sp_xinit K T.C_InvalidStore "value") := by
  refine T.F_InvalidStore_init.ok sc_InvalidStore_init (fun vs H Q E h => ?_) (fun cdv A outer s H vs Q E hr h => ?_)
  · obtain ⟨a, v, rfl, _⟩ := h
    rfl
  · obtain ⟨a, v, rfl, x, n, ha, k⟩ := h
    refine ⟨_, (pss_one (ps_ost (pv 0) (pv 1))), ?_⟩
    exact ⟨_, rfl, _, rfl, a, T.C_InvalidStore, rfl, x, n, .inl ⟨ha, k⟩⟩
theorem ok_InvalidScene_init (T : Txt K mg) : FnOk P w K mg base CX0 1 T.f_InvalidScene_init T.fd_InvalidScene_init ["self", "value"] (sp_xinit K T.C_InvalidScene "value") := by
  refine T.F_InvalidScene_init.ok sc_InvalidScene_init (fun vs H Q E h => ?_) (fun cdv A outer s H vs Q E hr h => ?_)
  · obtain ⟨a, v, rfl, _⟩ := h
    rfl
  · obtain ⟨a, v, rfl, x, n, ha, k⟩ := h
    refine ⟨_, (pss_one (ps_ost (pv 0) (pv 1))), ?_⟩
    exact ⟨_, rfl, _, rfl, a, T.C_InvalidScene, rfl, x, n, .inl ⟨ha, k⟩⟩
theorem ok_InvalidLog_init (T : Txt K mg) : FnOk P w K mg base CX0 1 T.f_InvalidLog_init T.fd_InvalidLog_init ["self", "value"] (sp_xinit K T.C_InvalidLog "value") := by
  refine T.F_InvalidLog_init.ok sc_InvalidLog_init (fun vs H Q E h => ?_) (fun cdv A outer s H vs Q E hr h => ?_)
  · obtain ⟨a, v, rfl, _⟩ := h
    rfl
  · obtain ⟨a, v, rfl, x, n, ha, k⟩ := h
    refine ⟨_, (pss_one (ps_ost (pv 0) (pv 1))), ?_⟩
    exact ⟨_, rfl, _, rfl, a, T.C_InvalidLog, rfl, x, n, .inl ⟨ha, k⟩⟩
theorem ok_InvalidText_init (T : Txt K mg) : FnOk P w K mg base CX0 1 T.f_InvalidText_init T.fd_InvalidText_init ["self", "value"] (sp_xinit K T.C_InvalidText "value") := by
  refine T.F_InvalidText_init.ok sc_InvalidText_init (fun vs H Q E h => ?_) (fun cdv A outer s H vs Q E hr h => ?_)
  · obtain ⟨a, v, rfl, _⟩ := h
    rfl
  · obtain ⟨a, v, rfl, x, n, ha, k⟩ := h
    refine ⟨_, (pss_one (ps_ost (pv 0) (pv 1))), ?_⟩
    exact ⟨_, rfl, _, rfl, a, T.C_InvalidText, rfl, x, n, .inl ⟨ha, k⟩⟩
theorem ok_InvalidCommand_init (T : Txt K mg) : FnOk P w K mg base CX0 1 T.f_InvalidCommand_init T.fd_InvalidCommand_init ["self", "value"] (sp_xinit K T.C_InvalidCommand "value") := by
  refine T.F_InvalidCommand_init.ok sc_InvalidCommand_init (fun vs H Q E h => ?_) (fun cdv A outer s H vs Q E hr h => ?_)
  · obtain ⟨a, v, rfl, _⟩ := h
    rfl
  · obtain ⟨a, v, rfl, x, n, ha, k⟩ := h
    refine ⟨_, (pss_one (ps_ost (pv 0) (pv 1))), ?_⟩
    exact ⟨_, rfl, _, rfl, a, T.C_InvalidCommand, rfl, x, n, .inl ⟨ha, k⟩⟩
theorem ok_Duplicate_init (T : Txt K mg) : FnOk P w K mg base CX0 1 T.f_Duplicate_init T.fd_Duplicate_init ["self", "name"] (sp_xinit K T.C_Duplicate "name") := by
  refine T.F_Duplicate_init.ok sc_Duplicate_init (fun vs H Q E h => ?_) (fun cdv A outer s H vs Q E hr h => ?_)
  · obtain ⟨a, v, rfl, _⟩ := h
    rfl
  · obtain ⟨a, v, rfl, x, n, ha, k⟩ := h
    refine ⟨_, (pss_one (ps_ost (pv 0) (pv 1))), ?_⟩
    exact ⟨_, rfl, _, rfl, a, T.C_Duplicate, rfl, x, n, .inl ⟨ha, k⟩⟩
theorem ok_UnknownPart_init (T : Txt K mg) : FnOk P w K mg base CX0 1 T.f_UnknownPart_init T.fd_UnknownPart_init ["self", "name"] (sp_xinit K T.C_UnknownPart "name") := by
  refine T.F_UnknownPart_init.ok sc_UnknownPart_init (fun vs H Q E h => ?_) (fun cdv A outer s H vs Q E hr h => ?_)
  · obtain ⟨a, v, rfl, _⟩ := h
    rfl
  · obtain ⟨a, v, rfl, x, n, ha, k⟩ := h
    refine ⟨_, (pss_one (ps_ost (pv 0) (pv 1))), ?_⟩
    exact ⟨_, rfl, _, rfl, a, T.C_UnknownPart, rfl, x, n, .inl ⟨ha, k⟩⟩
theorem ok_UnknownMode_init (T : Txt K mg) : FnOk P w K mg base CX0 1 T.f_UnknownMode_init T.fd_UnknownMode_init ["self", "name"] (sp_xinit K T.C_UnknownMode "name") := by
  refine T.F_UnknownMode_init.ok sc_UnknownMode_init (fun vs H Q E h => ?_) (fun cdv A outer s H vs Q E hr h => ?_)
  · obtain ⟨a, v, rfl, _⟩ := h
    rfl
  · obtain ⟨a, v, rfl, x, n, ha, k⟩ := h
    refine ⟨_, (pss_one (ps_ost (pv 0) (pv 1))), ?_⟩
    exact ⟨_, rfl, _, rfl, a, T.C_UnknownMode, rfl, x, n, .inl ⟨ha, k⟩⟩
theorem ok_UnknownEntry_init (T : Txt K mg) : FnOk P w K mg base CX0 1 T.f_UnknownEntry_init T.fd_UnknownEntry_init ["self", "name"] (sp_xinit K T.C_UnknownEntry "name") := by
  refine T.F_UnknownEntry_init.ok sc_UnknownEntry_init (fun vs H Q E h => ?_) (fun cdv A outer s H vs Q E hr h => ?_)
  · obtain ⟨a, v, rfl, _⟩ := h
    rfl
  · obtain ⟨a, v, rfl, x, n, ha, k⟩ := h
    refine ⟨_, (pss_one (ps_ost (pv 0) (pv 1))), ?_⟩
    exact ⟨_, rfl, _, rfl, a, T.C_UnknownEntry, rfl, x, n, .inl ⟨ha, k⟩⟩
theorem ok_NameTaken_init (T : Txt K mg) : FnOk P w K mg base CX0 1 T.f_NameTaken_init T.fd_NameTaken_init ["self", "name"] (sp_xinit K T.C_NameTaken "name") := by
  refine T.F_NameTaken_init.ok sc_NameTaken_init (fun vs H Q E h => ?_) (fun cdv A outer s H vs Q E hr h => ?_)
  · obtain ⟨a, v, rfl, _⟩ := h
    rfl
  · obtain ⟨a, v, rfl, x, n, ha, k⟩ := h
    refine ⟨_, (pss_one (ps_ost (pv 0) (pv 1))), ?_⟩
    exact ⟨_, rfl, _, rfl, a, T.C_NameTaken, rfl, x, n, .inl ⟨ha, k⟩⟩
theorem ok_Overlap_init (T : Txt K mg) : FnOk P w K mg base CX0 1 T.f_Overlap_init T.fd_Overlap_init ["self", "name"] (sp_xinit K T.C_Overlap "name") := by
  refine T.F_Overlap_init.ok sc_Overlap_init (fun vs H Q E h => ?_) (fun cdv A outer s H vs Q E hr h => ?_)
  · obtain ⟨a, v, rfl, _⟩ := h
    rfl
  · obtain ⟨a, v, rfl, x, n, ha, k⟩ := h
    refine ⟨_, (pss_one (ps_ost (pv 0) (pv 1))), ?_⟩
    exact ⟨_, rfl, _, rfl, a, T.C_Overlap, rfl, x, n, .inl ⟨ha, k⟩⟩
theorem ok_NotInside_init (T : Txt K mg) : FnOk P w K mg base CX0 1 T.f_NotInside_init T.fd_NotInside_init ["self", "at"] (sp_xinit K T.C_NotInside "at") := by
  refine T.F_NotInside_init.ok sc_NotInside_init (fun vs H Q E h => ?_) (fun cdv A outer s H vs Q E hr h => ?_)
  · obtain ⟨a, v, rfl, _⟩ := h
    rfl
  · obtain ⟨a, v, rfl, x, n, ha, k⟩ := h
    refine ⟨_, (pss_one (ps_ost (pv 0) (pv 1))), ?_⟩
    exact ⟨_, rfl, _, rfl, a, T.C_NotInside, rfl, x, n, .inl ⟨ha, k⟩⟩
theorem ok_NotNeighbours_init (T : Txt K mg) : FnOk P w K mg base CX0 1 T.f_NotNeighbours_init T.fd_NotNeighbours_init ["self", "name"] (sp_xinit K T.C_NotNeighbours "name") := by
  refine T.F_NotNeighbours_init.ok sc_NotNeighbours_init (fun vs H Q E h => ?_) (fun cdv A outer s H vs Q E hr h => ?_)
  · obtain ⟨a, v, rfl, _⟩ := h
    rfl
  · obtain ⟨a, v, rfl, x, n, ha, k⟩ := h
    refine ⟨_, (pss_one (ps_ost (pv 0) (pv 1))), ?_⟩
    exact ⟨_, rfl, _, rfl, a, T.C_NotNeighbours, rfl, x, n, .inl ⟨ha, k⟩⟩
theorem ok_NoProgram_init (T : Txt K mg) : FnOk P w K mg base CX0 1 T.f_NoProgram_init T.fd_NoProgram_init ["self", "kind"] (sp_xinit K T.C_NoProgram "kind") := by
  refine T.F_NoProgram_init.ok sc_NoProgram_init (fun vs H Q E h => ?_) (fun cdv A outer s H vs Q E hr h => ?_)
  · obtain ⟨a, v, rfl, _⟩ := h
    rfl
  · obtain ⟨a, v, rfl, x, n, ha, k⟩ := h
    refine ⟨_, (pss_one (ps_ost (pv 0) (pv 1))), ?_⟩
    exact ⟨_, rfl, _, rfl, a, T.C_NoProgram, rfl, x, n, .inl ⟨ha, k⟩⟩
theorem ok_TooMany_init (T : Txt K mg) : FnOk P w K mg base CX0 1 T.f_TooMany_init T.fd_TooMany_init ["self", "bound"] (sp_xinit K T.C_TooMany "bound") := by
  refine T.F_TooMany_init.ok sc_TooMany_init (fun vs H Q E h => ?_) (fun cdv A outer s H vs Q E hr h => ?_)
  · obtain ⟨a, v, rfl, _⟩ := h
    rfl
  · obtain ⟨a, v, rfl, x, n, ha, k⟩ := h
    refine ⟨_, (pss_one (ps_ost (pv 0) (pv 1))), ?_⟩
    exact ⟨_, rfl, _, rfl, a, T.C_TooMany, rfl, x, n, .inl ⟨ha, k⟩⟩
theorem ok_Ended_init (T : Txt K mg) : FnOk P w K mg base CX0 1 T.f_Ended_init T.fd_Ended_init ["self", "number"] (sp_xinit K T.C_Ended "number") := by
  refine T.F_Ended_init.ok sc_Ended_init (fun vs H Q E h => ?_) (fun cdv A outer s H vs Q E hr h => ?_)
  · obtain ⟨a, v, rfl, _⟩ := h
    rfl
  · obtain ⟨a, v, rfl, x, n, ha, k⟩ := h
    refine ⟨_, (pss_one (ps_ost (pv 0) (pv 1))), ?_⟩
    exact ⟨_, rfl, _, rfl, a, T.C_Ended, rfl, x, n, .inl ⟨ha, k⟩⟩
theorem ok_Waiting_init (T : Txt K mg) : FnOk P w K mg base CX0 1 T.f_Waiting_init T.fd_Waiting_init ["self", "number"] (sp_xinit K T.C_Waiting "number") := by
  refine T.F_Waiting_init.ok sc_Waiting_init (fun vs H Q E h => ?_) (fun cdv A outer s H vs Q E hr h => ?_)
  · obtain ⟨a, v, rfl, _⟩ := h
    rfl
  · obtain ⟨a, v, rfl, x, n, ha, k⟩ := h
    refine ⟨_, (pss_one (ps_ost (pv 0) (pv 1))), ?_⟩
    exact ⟨_, rfl, _, rfl, a, T.C_Waiting, rfl, x, n, .inl ⟨ha, k⟩⟩
theorem ok_law_classes (T : Txt K mg) : FnOk P w K mg base CX0 1 T.f_law_classes T.fd_law_classes ["_law_error"] (sp_classes K (Cs T)) := by
  refine T.F_law_classes.ok sc_law_classes (fun vs H Q E h => ?_) (fun cdv A outer s H vs Q E hr h => ?_)
  · obtain ⟨a, C, bits, rfl, _⟩ := h
    rfl
  · obtain ⟨a, C, bits, rfl, ea, KE, kit, k⟩ := h
    have k0 : PySem.W.kitOne K (.ref C) (.ref T.C_InvalidName) = some (bits 0) := kit 0 _ rfl
    have k1 : PySem.W.kitOne K (.ref C) (.ref T.C_InvalidKey) = some (bits 1) := kit 1 _ rfl
    have k2 : PySem.W.kitOne K (.ref C) (.ref T.C_InvalidSpan) = some (bits 2) := kit 2 _ rfl
    have k3 : PySem.W.kitOne K (.ref C) (.ref T.C_InvalidSpans) = some (bits 3) := kit 3 _ rfl
    have k4 : PySem.W.kitOne K (.ref C) (.ref T.C_InvalidCatalog) = some (bits 4) := kit 4 _ rfl
    have k5 : PySem.W.kitOne K (.ref C) (.ref T.C_InvalidChange) = some (bits 5) := kit 5 _ rfl
    have k6 : PySem.W.kitOne K (.ref C) (.ref T.C_InvalidModes) = some (bits 6) := kit 6 _ rfl
    have k7 : PySem.W.kitOne K (.ref C) (.ref T.C_InvalidClash) = some (bits 7) := kit 7 _ rfl
    have k8 : PySem.W.kitOne K (.ref C) (.ref T.C_InvalidStrengths) = some (bits 8) := kit 8 _ rfl
    have k9 : PySem.W.kitOne K (.ref C) (.ref T.C_InvalidProgram) = some (bits 9) := kit 9 _ rfl
    have k10 : PySem.W.kitOne K (.ref C) (.ref T.C_InvalidPrograms) = some (bits 10) := kit 10 _ rfl
    have k11 : PySem.W.kitOne K (.ref C) (.ref T.C_InvalidProtocol) = some (bits 11) := kit 11 _ rfl
    have k12 : PySem.W.kitOne K (.ref C) (.ref T.C_InvalidRows) = some (bits 12) := kit 12 _ rfl
    have k13 : PySem.W.kitOne K (.ref C) (.ref T.C_InvalidSession) = some (bits 13) := kit 13 _ rfl
    have k14 : PySem.W.kitOne K (.ref C) (.ref T.C_InvalidNumber) = some (bits 14) := kit 14 _ rfl
    have k15 : PySem.W.kitOne K (.ref C) (.ref T.C_InvalidWeaving) = some (bits 15) := kit 15 _ rfl
    have k16 : PySem.W.kitOne K (.ref C) (.ref T.C_InvalidStore) = some (bits 16) := kit 16 _ rfl
    have k17 : PySem.W.kitOne K (.ref C) (.ref T.C_InvalidScene) = some (bits 17) := kit 17 _ rfl
    have k18 : PySem.W.kitOne K (.ref C) (.ref T.C_InvalidLog) = some (bits 18) := kit 18 _ rfl
    have k19 : PySem.W.kitOne K (.ref C) (.ref T.C_InvalidText) = some (bits 19) := kit 19 _ rfl
    have k20 : PySem.W.kitOne K (.ref C) (.ref T.C_InvalidCommand) = some (bits 20) := kit 20 _ rfl
    have k21 : PySem.W.kitOne K (.ref C) (.ref T.C_Duplicate) = some (bits 21) := kit 21 _ rfl
    have k22 : PySem.W.kitOne K (.ref C) (.ref T.C_UnknownPart) = some (bits 22) := kit 22 _ rfl
    have k23 : PySem.W.kitOne K (.ref C) (.ref T.C_UnknownMode) = some (bits 23) := kit 23 _ rfl
    have k24 : PySem.W.kitOne K (.ref C) (.ref T.C_UnknownEntry) = some (bits 24) := kit 24 _ rfl
    have k25 : PySem.W.kitOne K (.ref C) (.ref T.C_NameTaken) = some (bits 25) := kit 25 _ rfl
    have k26 : PySem.W.kitOne K (.ref C) (.ref T.C_Overlap) = some (bits 26) := kit 26 _ rfl
    have k27 : PySem.W.kitOne K (.ref C) (.ref T.C_NotInside) = some (bits 27) := kit 27 _ rfl
    have k28 : PySem.W.kitOne K (.ref C) (.ref T.C_NotNeighbours) = some (bits 28) := kit 28 _ rfl
    have k29 : PySem.W.kitOne K (.ref C) (.ref T.C_NoProgram) = some (bits 29) := kit 29 _ rfl
    have k30 : PySem.W.kitOne K (.ref C) (.ref T.C_TooMany) = some (bits 30) := kit 30 _ rfl
    have k31 : PySem.W.kitOne K (.ref C) (.ref T.C_Ended) = some (bits 31) := kit 31 _ rfl
    have k32 : PySem.W.kitOne K (.ref C) (.ref T.C_Waiting) = some (bits 32) := kit 32 _ rfl
    have k33 : PySem.W.kitOne K (.ref C) (.ref T.C_NothingBad) = some (bits 33) := kit 33 _ rfl
    have k34 : PySem.W.kitOne K (.ref C) (.ref T.C_NotRight) = some (bits 34) := kit 34 _ rfl
    have k35 : PySem.W.kitOne K (.ref C) (.ref T.C_NoStore) = some (bits 35) := kit 35 _ rfl
    have k36 : PySem.W.kitOne K (.ref C) (.ref T.C_NothingToUndo) = some (bits 36) := kit 36 _ rfl
    have k37 : PySem.W.kitOne K (.ref C) (.ref T.C_NothingToRedo) = some (bits 37) := kit 37 _ rfl
    clear kit
    refine ⟨_, (pss_cons (ps_set (i := 1) sc_law_classes.nd rfl (Or.inr rfl) (pe_lst pa_nil))
        (C8.pss_cut (ps_set (i := 1) sc_law_classes.nd rfl (Or.inr rfl) (pe_op op_cat (pv 1) (pe_lst (pa_cons (pe_callB (id := "isinstance") (r := rIsE K) call_isE (by rfl) T.z_isinstance (by decide +kernel) (pa_cons (pv 0) (pa_cons (pe_glob (v := .ref T.C_InvalidName) rfl T.g_InvalidName rfl) pa_nil))) (pa_cons (pe_callB (id := "isinstance") (r := rIsE K) call_isE (by rfl) T.z_isinstance (by decide +kernel) (pa_cons (pv 0) (pa_cons (pe_glob (v := .ref T.C_InvalidKey) rfl T.g_InvalidKey rfl) pa_nil))) pa_nil)))))
        (C8.pss_cut (ps_set (i := 1) sc_law_classes.nd rfl (Or.inr rfl) (pe_op op_cat (pv 1) (pe_lst (pa_cons (pe_callB (id := "isinstance") (r := rIsE K) call_isE (by rfl) T.z_isinstance (by decide +kernel) (pa_cons (pv 0) (pa_cons (pe_glob (v := .ref T.C_InvalidSpan) rfl T.g_InvalidSpan rfl) pa_nil))) (pa_cons (pe_callB (id := "isinstance") (r := rIsE K) call_isE (by rfl) T.z_isinstance (by decide +kernel) (pa_cons (pv 0) (pa_cons (pe_glob (v := .ref T.C_InvalidSpans) rfl T.g_InvalidSpans rfl) pa_nil))) pa_nil)))))
        (C8.pss_cut (ps_set (i := 1) sc_law_classes.nd rfl (Or.inr rfl) (pe_op op_cat (pv 1) (pe_lst (pa_cons (pe_callB (id := "isinstance") (r := rIsE K) call_isE (by rfl) T.z_isinstance (by decide +kernel) (pa_cons (pv 0) (pa_cons (pe_glob (v := .ref T.C_InvalidCatalog) rfl T.g_InvalidCatalog rfl) pa_nil))) (pa_cons (pe_callB (id := "isinstance") (r := rIsE K) call_isE (by rfl) T.z_isinstance (by decide +kernel) (pa_cons (pv 0) (pa_cons (pe_glob (v := .ref T.C_InvalidChange) rfl T.g_InvalidChange rfl) pa_nil))) pa_nil)))))
        (C8.pss_cut (ps_set (i := 1) sc_law_classes.nd rfl (Or.inr rfl) (pe_op op_cat (pv 1) (pe_lst (pa_cons (pe_callB (id := "isinstance") (r := rIsE K) call_isE (by rfl) T.z_isinstance (by decide +kernel) (pa_cons (pv 0) (pa_cons (pe_glob (v := .ref T.C_InvalidModes) rfl T.g_InvalidModes rfl) pa_nil))) (pa_cons (pe_callB (id := "isinstance") (r := rIsE K) call_isE (by rfl) T.z_isinstance (by decide +kernel) (pa_cons (pv 0) (pa_cons (pe_glob (v := .ref T.C_InvalidClash) rfl T.g_InvalidClash rfl) pa_nil))) pa_nil)))))
        (C8.pss_cut (ps_set (i := 1) sc_law_classes.nd rfl (Or.inr rfl) (pe_op op_cat (pv 1) (pe_lst (pa_cons (pe_callB (id := "isinstance") (r := rIsE K) call_isE (by rfl) T.z_isinstance (by decide +kernel) (pa_cons (pv 0) (pa_cons (pe_glob (v := .ref T.C_InvalidStrengths) rfl T.g_InvalidStrengths rfl) pa_nil))) (pa_cons (pe_callB (id := "isinstance") (r := rIsE K) call_isE (by rfl) T.z_isinstance (by decide +kernel) (pa_cons (pv 0) (pa_cons (pe_glob (v := .ref T.C_InvalidProgram) rfl T.g_InvalidProgram rfl) pa_nil))) pa_nil)))))
        (C8.pss_cut (ps_set (i := 1) sc_law_classes.nd rfl (Or.inr rfl) (pe_op op_cat (pv 1) (pe_lst (pa_cons (pe_callB (id := "isinstance") (r := rIsE K) call_isE (by rfl) T.z_isinstance (by decide +kernel) (pa_cons (pv 0) (pa_cons (pe_glob (v := .ref T.C_InvalidPrograms) rfl T.g_InvalidPrograms rfl) pa_nil))) (pa_cons (pe_callB (id := "isinstance") (r := rIsE K) call_isE (by rfl) T.z_isinstance (by decide +kernel) (pa_cons (pv 0) (pa_cons (pe_glob (v := .ref T.C_InvalidProtocol) rfl T.g_InvalidProtocol rfl) pa_nil))) pa_nil)))))
        (C8.pss_cut (ps_set (i := 1) sc_law_classes.nd rfl (Or.inr rfl) (pe_op op_cat (pv 1) (pe_lst (pa_cons (pe_callB (id := "isinstance") (r := rIsE K) call_isE (by rfl) T.z_isinstance (by decide +kernel) (pa_cons (pv 0) (pa_cons (pe_glob (v := .ref T.C_InvalidRows) rfl T.g_InvalidRows rfl) pa_nil))) (pa_cons (pe_callB (id := "isinstance") (r := rIsE K) call_isE (by rfl) T.z_isinstance (by decide +kernel) (pa_cons (pv 0) (pa_cons (pe_glob (v := .ref T.C_InvalidSession) rfl T.g_InvalidSession rfl) pa_nil))) pa_nil)))))
        (C8.pss_cut (ps_set (i := 1) sc_law_classes.nd rfl (Or.inr rfl) (pe_op op_cat (pv 1) (pe_lst (pa_cons (pe_callB (id := "isinstance") (r := rIsE K) call_isE (by rfl) T.z_isinstance (by decide +kernel) (pa_cons (pv 0) (pa_cons (pe_glob (v := .ref T.C_InvalidNumber) rfl T.g_InvalidNumber rfl) pa_nil))) (pa_cons (pe_callB (id := "isinstance") (r := rIsE K) call_isE (by rfl) T.z_isinstance (by decide +kernel) (pa_cons (pv 0) (pa_cons (pe_glob (v := .ref T.C_InvalidWeaving) rfl T.g_InvalidWeaving rfl) pa_nil))) pa_nil)))))
        (C8.pss_cut (ps_set (i := 1) sc_law_classes.nd rfl (Or.inr rfl) (pe_op op_cat (pv 1) (pe_lst (pa_cons (pe_callB (id := "isinstance") (r := rIsE K) call_isE (by rfl) T.z_isinstance (by decide +kernel) (pa_cons (pv 0) (pa_cons (pe_glob (v := .ref T.C_InvalidStore) rfl T.g_InvalidStore rfl) pa_nil))) (pa_cons (pe_callB (id := "isinstance") (r := rIsE K) call_isE (by rfl) T.z_isinstance (by decide +kernel) (pa_cons (pv 0) (pa_cons (pe_glob (v := .ref T.C_InvalidScene) rfl T.g_InvalidScene rfl) pa_nil))) pa_nil)))))
        (C8.pss_cut (ps_set (i := 1) sc_law_classes.nd rfl (Or.inr rfl) (pe_op op_cat (pv 1) (pe_lst (pa_cons (pe_callB (id := "isinstance") (r := rIsE K) call_isE (by rfl) T.z_isinstance (by decide +kernel) (pa_cons (pv 0) (pa_cons (pe_glob (v := .ref T.C_InvalidLog) rfl T.g_InvalidLog rfl) pa_nil))) (pa_cons (pe_callB (id := "isinstance") (r := rIsE K) call_isE (by rfl) T.z_isinstance (by decide +kernel) (pa_cons (pv 0) (pa_cons (pe_glob (v := .ref T.C_InvalidText) rfl T.g_InvalidText rfl) pa_nil))) pa_nil)))))
        (C8.pss_cut (ps_set (i := 1) sc_law_classes.nd rfl (Or.inr rfl) (pe_op op_cat (pv 1) (pe_lst (pa_cons (pe_callB (id := "isinstance") (r := rIsE K) call_isE (by rfl) T.z_isinstance (by decide +kernel) (pa_cons (pv 0) (pa_cons (pe_glob (v := .ref T.C_InvalidCommand) rfl T.g_InvalidCommand rfl) pa_nil))) (pa_cons (pe_callB (id := "isinstance") (r := rIsE K) call_isE (by rfl) T.z_isinstance (by decide +kernel) (pa_cons (pv 0) (pa_cons (pe_glob (v := .ref T.C_Duplicate) rfl T.g_Duplicate rfl) pa_nil))) pa_nil)))))
        (C8.pss_cut (ps_set (i := 1) sc_law_classes.nd rfl (Or.inr rfl) (pe_op op_cat (pv 1) (pe_lst (pa_cons (pe_callB (id := "isinstance") (r := rIsE K) call_isE (by rfl) T.z_isinstance (by decide +kernel) (pa_cons (pv 0) (pa_cons (pe_glob (v := .ref T.C_UnknownPart) rfl T.g_UnknownPart rfl) pa_nil))) (pa_cons (pe_callB (id := "isinstance") (r := rIsE K) call_isE (by rfl) T.z_isinstance (by decide +kernel) (pa_cons (pv 0) (pa_cons (pe_glob (v := .ref T.C_UnknownMode) rfl T.g_UnknownMode rfl) pa_nil))) pa_nil)))))
        (C8.pss_cut (ps_set (i := 1) sc_law_classes.nd rfl (Or.inr rfl) (pe_op op_cat (pv 1) (pe_lst (pa_cons (pe_callB (id := "isinstance") (r := rIsE K) call_isE (by rfl) T.z_isinstance (by decide +kernel) (pa_cons (pv 0) (pa_cons (pe_glob (v := .ref T.C_UnknownEntry) rfl T.g_UnknownEntry rfl) pa_nil))) (pa_cons (pe_callB (id := "isinstance") (r := rIsE K) call_isE (by rfl) T.z_isinstance (by decide +kernel) (pa_cons (pv 0) (pa_cons (pe_glob (v := .ref T.C_NameTaken) rfl T.g_NameTaken rfl) pa_nil))) pa_nil)))))
        (C8.pss_cut (ps_set (i := 1) sc_law_classes.nd rfl (Or.inr rfl) (pe_op op_cat (pv 1) (pe_lst (pa_cons (pe_callB (id := "isinstance") (r := rIsE K) call_isE (by rfl) T.z_isinstance (by decide +kernel) (pa_cons (pv 0) (pa_cons (pe_glob (v := .ref T.C_Overlap) rfl T.g_Overlap rfl) pa_nil))) (pa_cons (pe_callB (id := "isinstance") (r := rIsE K) call_isE (by rfl) T.z_isinstance (by decide +kernel) (pa_cons (pv 0) (pa_cons (pe_glob (v := .ref T.C_NotInside) rfl T.g_NotInside rfl) pa_nil))) pa_nil)))))
        (C8.pss_cut (ps_set (i := 1) sc_law_classes.nd rfl (Or.inr rfl) (pe_op op_cat (pv 1) (pe_lst (pa_cons (pe_callB (id := "isinstance") (r := rIsE K) call_isE (by rfl) T.z_isinstance (by decide +kernel) (pa_cons (pv 0) (pa_cons (pe_glob (v := .ref T.C_NotNeighbours) rfl T.g_NotNeighbours rfl) pa_nil))) (pa_cons (pe_callB (id := "isinstance") (r := rIsE K) call_isE (by rfl) T.z_isinstance (by decide +kernel) (pa_cons (pv 0) (pa_cons (pe_glob (v := .ref T.C_NoProgram) rfl T.g_NoProgram rfl) pa_nil))) pa_nil)))))
        (C8.pss_cut (ps_set (i := 1) sc_law_classes.nd rfl (Or.inr rfl) (pe_op op_cat (pv 1) (pe_lst (pa_cons (pe_callB (id := "isinstance") (r := rIsE K) call_isE (by rfl) T.z_isinstance (by decide +kernel) (pa_cons (pv 0) (pa_cons (pe_glob (v := .ref T.C_TooMany) rfl T.g_TooMany rfl) pa_nil))) (pa_cons (pe_callB (id := "isinstance") (r := rIsE K) call_isE (by rfl) T.z_isinstance (by decide +kernel) (pa_cons (pv 0) (pa_cons (pe_glob (v := .ref T.C_Ended) rfl T.g_Ended rfl) pa_nil))) pa_nil)))))
        (C8.pss_cut (ps_set (i := 1) sc_law_classes.nd rfl (Or.inr rfl) (pe_op op_cat (pv 1) (pe_lst (pa_cons (pe_callB (id := "isinstance") (r := rIsE K) call_isE (by rfl) T.z_isinstance (by decide +kernel) (pa_cons (pv 0) (pa_cons (pe_glob (v := .ref T.C_Waiting) rfl T.g_Waiting rfl) pa_nil))) (pa_cons (pe_callB (id := "isinstance") (r := rIsE K) call_isE (by rfl) T.z_isinstance (by decide +kernel) (pa_cons (pv 0) (pa_cons (pe_glob (v := .ref T.C_NothingBad) rfl T.g_NothingBad rfl) pa_nil))) pa_nil)))))
        (C8.pss_cut (ps_set (i := 1) sc_law_classes.nd rfl (Or.inr rfl) (pe_op op_cat (pv 1) (pe_lst (pa_cons (pe_callB (id := "isinstance") (r := rIsE K) call_isE (by rfl) T.z_isinstance (by decide +kernel) (pa_cons (pv 0) (pa_cons (pe_glob (v := .ref T.C_NotRight) rfl T.g_NotRight rfl) pa_nil))) (pa_cons (pe_callB (id := "isinstance") (r := rIsE K) call_isE (by rfl) T.z_isinstance (by decide +kernel) (pa_cons (pv 0) (pa_cons (pe_glob (v := .ref T.C_NoStore) rfl T.g_NoStore rfl) pa_nil))) pa_nil)))))
        (C8.pss_cut (ps_set (i := 1) sc_law_classes.nd rfl (Or.inr rfl) (pe_op op_cat (pv 1) (pe_lst (pa_cons (pe_callB (id := "isinstance") (r := rIsE K) call_isE (by rfl) T.z_isinstance (by decide +kernel) (pa_cons (pv 0) (pa_cons (pe_glob (v := .ref T.C_NothingToUndo) rfl T.g_NothingToUndo rfl) pa_nil))) (pa_cons (pe_callB (id := "isinstance") (r := rIsE K) call_isE (by rfl) T.z_isinstance (by decide +kernel) (pa_cons (pv 0) (pa_cons (pe_glob (v := .ref T.C_NothingToRedo) rfl T.g_NothingToRedo rfl) pa_nil))) pa_nil)))))
        (pss_one (ps_ret (pe_lc (own := [("_law_k", 2)]) (g := gName 2) rfl sc_law_classes.nd (pi_range1 rfl T.z_range (pa_cons (pe_callB (id := "len") call_len_seq (by rfl) T.z_len (by decide +kernel) (pa_cons (pv 1) pa_nil)) pa_nil)) (blkOk_by (own := [("_law_k", 2)]) (N := ["_law_error", "_law_found", "_law_k"]) (sc := defScope s_law_classes) (by decide +kernel)) (fun _ _ _ _ _ => (pg_name (i := 2) sc_law_classes.nd rfl (Or.inl rfl))) (fun _ _ _ _ _ => (pts_one (pt_val (pe_ix (r := rIxL K) ix_list (pv 1) (pv 2) (fun _ _ => rfl))))) (fun _ _ _ _ _ => (pv 2))))))))))))))))))))))))), ?_⟩
    refine ⟨Nat.zero_le _, fun f0 h0 => ?_⟩
    have s0 := same_new (o := .lst []) h0
    have w0 : (upd H f0 (.lst [])) f0 = some (.lst ([] : List V)) := upd_same
    have e0 := ea.mono s0
    refine ⟨fun σ H' => ∃ f : Addr, σ = [some (.ref a), some (.ref f), none] ∧ Same H H' ∧ H' f = some (HO.lst [.bl (bits 0), .bl (bits 1)]), ?_, ?_⟩
    · refine ⟨_, rfl, _, rfl, a, C, .ref T.C_InvalidName, .ref T.C_InvalidName, bits 0, rfl, .own _, e0, KE, k0, _, rfl, a, C, .ref T.C_InvalidKey, .ref T.C_InvalidKey, bits 1, rfl, .own _, e0, KE, k1, (by show 2 ≤ sizeLine; decide), fun l hl => ?_⟩
      have sa := same_new (o := .lst [.bl (bits 0), .bl (bits 1)]) hl
      refine ⟨f0, l, _, _, rfl, rfl, sa _ _ w0, upd_same, (by show 2 ≤ sizeLine; decide), fun f hf => ?_⟩
      exact ⟨f, rfl, s0.trans (sa.trans (same_new hf)), upd_same⟩
    rintro σ G1 ⟨f1, rfl, s1, w1⟩
    have e1 := ea.mono s1
    refine ⟨fun σ H' => ∃ f : Addr, σ = [some (.ref a), some (.ref f), none] ∧ Same H H' ∧ H' f = some (HO.lst [.bl (bits 0), .bl (bits 1), .bl (bits 2), .bl (bits 3)]), ?_, ?_⟩
    · refine ⟨_, rfl, _, rfl, a, C, .ref T.C_InvalidSpan, .ref T.C_InvalidSpan, bits 2, rfl, .own _, e1, KE, k2, _, rfl, a, C, .ref T.C_InvalidSpans, .ref T.C_InvalidSpans, bits 3, rfl, .own _, e1, KE, k3, (by show 2 ≤ sizeLine; decide), fun l hl => ?_⟩
      have sa := same_new (o := .lst [.bl (bits 2), .bl (bits 3)]) hl
      refine ⟨f1, l, _, _, rfl, rfl, sa _ _ w1, upd_same, (by show 4 ≤ sizeLine; decide), fun f hf => ?_⟩
      exact ⟨f, rfl, s1.trans (sa.trans (same_new hf)), upd_same⟩
    rintro σ G2 ⟨f2, rfl, s2, w2⟩
    have e2 := ea.mono s2
    refine ⟨fun σ H' => ∃ f : Addr, σ = [some (.ref a), some (.ref f), none] ∧ Same H H' ∧ H' f = some (HO.lst [.bl (bits 0), .bl (bits 1), .bl (bits 2), .bl (bits 3), .bl (bits 4), .bl (bits 5)]), ?_, ?_⟩
    · refine ⟨_, rfl, _, rfl, a, C, .ref T.C_InvalidCatalog, .ref T.C_InvalidCatalog, bits 4, rfl, .own _, e2, KE, k4, _, rfl, a, C, .ref T.C_InvalidChange, .ref T.C_InvalidChange, bits 5, rfl, .own _, e2, KE, k5, (by show 2 ≤ sizeLine; decide), fun l hl => ?_⟩
      have sa := same_new (o := .lst [.bl (bits 4), .bl (bits 5)]) hl
      refine ⟨f2, l, _, _, rfl, rfl, sa _ _ w2, upd_same, (by show 6 ≤ sizeLine; decide), fun f hf => ?_⟩
      exact ⟨f, rfl, s2.trans (sa.trans (same_new hf)), upd_same⟩
    rintro σ G3 ⟨f3, rfl, s3, w3⟩
    have e3 := ea.mono s3
    refine ⟨fun σ H' => ∃ f : Addr, σ = [some (.ref a), some (.ref f), none] ∧ Same H H' ∧ H' f = some (HO.lst [.bl (bits 0), .bl (bits 1), .bl (bits 2), .bl (bits 3), .bl (bits 4), .bl (bits 5), .bl (bits 6), .bl (bits 7)]), ?_, ?_⟩
    · refine ⟨_, rfl, _, rfl, a, C, .ref T.C_InvalidModes, .ref T.C_InvalidModes, bits 6, rfl, .own _, e3, KE, k6, _, rfl, a, C, .ref T.C_InvalidClash, .ref T.C_InvalidClash, bits 7, rfl, .own _, e3, KE, k7, (by show 2 ≤ sizeLine; decide), fun l hl => ?_⟩
      have sa := same_new (o := .lst [.bl (bits 6), .bl (bits 7)]) hl
      refine ⟨f3, l, _, _, rfl, rfl, sa _ _ w3, upd_same, (by show 8 ≤ sizeLine; decide), fun f hf => ?_⟩
      exact ⟨f, rfl, s3.trans (sa.trans (same_new hf)), upd_same⟩
    rintro σ G4 ⟨f4, rfl, s4, w4⟩
    have e4 := ea.mono s4
    refine ⟨fun σ H' => ∃ f : Addr, σ = [some (.ref a), some (.ref f), none] ∧ Same H H' ∧ H' f = some (HO.lst [.bl (bits 0), .bl (bits 1), .bl (bits 2), .bl (bits 3), .bl (bits 4), .bl (bits 5), .bl (bits 6), .bl (bits 7), .bl (bits 8), .bl (bits 9)]), ?_, ?_⟩
    · refine ⟨_, rfl, _, rfl, a, C, .ref T.C_InvalidStrengths, .ref T.C_InvalidStrengths, bits 8, rfl, .own _, e4, KE, k8, _, rfl, a, C, .ref T.C_InvalidProgram, .ref T.C_InvalidProgram, bits 9, rfl, .own _, e4, KE, k9, (by show 2 ≤ sizeLine; decide), fun l hl => ?_⟩
      have sa := same_new (o := .lst [.bl (bits 8), .bl (bits 9)]) hl
      refine ⟨f4, l, _, _, rfl, rfl, sa _ _ w4, upd_same, (by show 10 ≤ sizeLine; decide), fun f hf => ?_⟩
      exact ⟨f, rfl, s4.trans (sa.trans (same_new hf)), upd_same⟩
    rintro σ G5 ⟨f5, rfl, s5, w5⟩
    have e5 := ea.mono s5
    refine ⟨fun σ H' => ∃ f : Addr, σ = [some (.ref a), some (.ref f), none] ∧ Same H H' ∧ H' f = some (HO.lst [.bl (bits 0), .bl (bits 1), .bl (bits 2), .bl (bits 3), .bl (bits 4), .bl (bits 5), .bl (bits 6), .bl (bits 7), .bl (bits 8), .bl (bits 9), .bl (bits 10), .bl (bits 11)]), ?_, ?_⟩
    · refine ⟨_, rfl, _, rfl, a, C, .ref T.C_InvalidPrograms, .ref T.C_InvalidPrograms, bits 10, rfl, .own _, e5, KE, k10, _, rfl, a, C, .ref T.C_InvalidProtocol, .ref T.C_InvalidProtocol, bits 11, rfl, .own _, e5, KE, k11, (by show 2 ≤ sizeLine; decide), fun l hl => ?_⟩
      have sa := same_new (o := .lst [.bl (bits 10), .bl (bits 11)]) hl
      refine ⟨f5, l, _, _, rfl, rfl, sa _ _ w5, upd_same, (by show 12 ≤ sizeLine; decide), fun f hf => ?_⟩
      exact ⟨f, rfl, s5.trans (sa.trans (same_new hf)), upd_same⟩
    rintro σ G6 ⟨f6, rfl, s6, w6⟩
    have e6 := ea.mono s6
    refine ⟨fun σ H' => ∃ f : Addr, σ = [some (.ref a), some (.ref f), none] ∧ Same H H' ∧ H' f = some (HO.lst [.bl (bits 0), .bl (bits 1), .bl (bits 2), .bl (bits 3), .bl (bits 4), .bl (bits 5), .bl (bits 6), .bl (bits 7), .bl (bits 8), .bl (bits 9), .bl (bits 10), .bl (bits 11), .bl (bits 12), .bl (bits 13)]), ?_, ?_⟩
    · refine ⟨_, rfl, _, rfl, a, C, .ref T.C_InvalidRows, .ref T.C_InvalidRows, bits 12, rfl, .own _, e6, KE, k12, _, rfl, a, C, .ref T.C_InvalidSession, .ref T.C_InvalidSession, bits 13, rfl, .own _, e6, KE, k13, (by show 2 ≤ sizeLine; decide), fun l hl => ?_⟩
      have sa := same_new (o := .lst [.bl (bits 12), .bl (bits 13)]) hl
      refine ⟨f6, l, _, _, rfl, rfl, sa _ _ w6, upd_same, (by show 14 ≤ sizeLine; decide), fun f hf => ?_⟩
      exact ⟨f, rfl, s6.trans (sa.trans (same_new hf)), upd_same⟩
    rintro σ G7 ⟨f7, rfl, s7, w7⟩
    have e7 := ea.mono s7
    refine ⟨fun σ H' => ∃ f : Addr, σ = [some (.ref a), some (.ref f), none] ∧ Same H H' ∧ H' f = some (HO.lst [.bl (bits 0), .bl (bits 1), .bl (bits 2), .bl (bits 3), .bl (bits 4), .bl (bits 5), .bl (bits 6), .bl (bits 7), .bl (bits 8), .bl (bits 9), .bl (bits 10), .bl (bits 11), .bl (bits 12), .bl (bits 13), .bl (bits 14), .bl (bits 15)]), ?_, ?_⟩
    · refine ⟨_, rfl, _, rfl, a, C, .ref T.C_InvalidNumber, .ref T.C_InvalidNumber, bits 14, rfl, .own _, e7, KE, k14, _, rfl, a, C, .ref T.C_InvalidWeaving, .ref T.C_InvalidWeaving, bits 15, rfl, .own _, e7, KE, k15, (by show 2 ≤ sizeLine; decide), fun l hl => ?_⟩
      have sa := same_new (o := .lst [.bl (bits 14), .bl (bits 15)]) hl
      refine ⟨f7, l, _, _, rfl, rfl, sa _ _ w7, upd_same, (by show 16 ≤ sizeLine; decide), fun f hf => ?_⟩
      exact ⟨f, rfl, s7.trans (sa.trans (same_new hf)), upd_same⟩
    rintro σ G8 ⟨f8, rfl, s8, w8⟩
    have e8 := ea.mono s8
    refine ⟨fun σ H' => ∃ f : Addr, σ = [some (.ref a), some (.ref f), none] ∧ Same H H' ∧ H' f = some (HO.lst [.bl (bits 0), .bl (bits 1), .bl (bits 2), .bl (bits 3), .bl (bits 4), .bl (bits 5), .bl (bits 6), .bl (bits 7), .bl (bits 8), .bl (bits 9), .bl (bits 10), .bl (bits 11), .bl (bits 12), .bl (bits 13), .bl (bits 14), .bl (bits 15), .bl (bits 16), .bl (bits 17)]), ?_, ?_⟩
    · refine ⟨_, rfl, _, rfl, a, C, .ref T.C_InvalidStore, .ref T.C_InvalidStore, bits 16, rfl, .own _, e8, KE, k16, _, rfl, a, C, .ref T.C_InvalidScene, .ref T.C_InvalidScene, bits 17, rfl, .own _, e8, KE, k17, (by show 2 ≤ sizeLine; decide), fun l hl => ?_⟩
      have sa := same_new (o := .lst [.bl (bits 16), .bl (bits 17)]) hl
      refine ⟨f8, l, _, _, rfl, rfl, sa _ _ w8, upd_same, (by show 18 ≤ sizeLine; decide), fun f hf => ?_⟩
      exact ⟨f, rfl, s8.trans (sa.trans (same_new hf)), upd_same⟩
    rintro σ G9 ⟨f9, rfl, s9, w9⟩
    have e9 := ea.mono s9
    refine ⟨fun σ H' => ∃ f : Addr, σ = [some (.ref a), some (.ref f), none] ∧ Same H H' ∧ H' f = some (HO.lst [.bl (bits 0), .bl (bits 1), .bl (bits 2), .bl (bits 3), .bl (bits 4), .bl (bits 5), .bl (bits 6), .bl (bits 7), .bl (bits 8), .bl (bits 9), .bl (bits 10), .bl (bits 11), .bl (bits 12), .bl (bits 13), .bl (bits 14), .bl (bits 15), .bl (bits 16), .bl (bits 17), .bl (bits 18), .bl (bits 19)]), ?_, ?_⟩
    · refine ⟨_, rfl, _, rfl, a, C, .ref T.C_InvalidLog, .ref T.C_InvalidLog, bits 18, rfl, .own _, e9, KE, k18, _, rfl, a, C, .ref T.C_InvalidText, .ref T.C_InvalidText, bits 19, rfl, .own _, e9, KE, k19, (by show 2 ≤ sizeLine; decide), fun l hl => ?_⟩
      have sa := same_new (o := .lst [.bl (bits 18), .bl (bits 19)]) hl
      refine ⟨f9, l, _, _, rfl, rfl, sa _ _ w9, upd_same, (by show 20 ≤ sizeLine; decide), fun f hf => ?_⟩
      exact ⟨f, rfl, s9.trans (sa.trans (same_new hf)), upd_same⟩
    rintro σ G10 ⟨f10, rfl, s10, w10⟩
    have e10 := ea.mono s10
    refine ⟨fun σ H' => ∃ f : Addr, σ = [some (.ref a), some (.ref f), none] ∧ Same H H' ∧ H' f = some (HO.lst [.bl (bits 0), .bl (bits 1), .bl (bits 2), .bl (bits 3), .bl (bits 4), .bl (bits 5), .bl (bits 6), .bl (bits 7), .bl (bits 8), .bl (bits 9), .bl (bits 10), .bl (bits 11), .bl (bits 12), .bl (bits 13), .bl (bits 14), .bl (bits 15), .bl (bits 16), .bl (bits 17), .bl (bits 18), .bl (bits 19), .bl (bits 20), .bl (bits 21)]), ?_, ?_⟩
    · refine ⟨_, rfl, _, rfl, a, C, .ref T.C_InvalidCommand, .ref T.C_InvalidCommand, bits 20, rfl, .own _, e10, KE, k20, _, rfl, a, C, .ref T.C_Duplicate, .ref T.C_Duplicate, bits 21, rfl, .own _, e10, KE, k21, (by show 2 ≤ sizeLine; decide), fun l hl => ?_⟩
      have sa := same_new (o := .lst [.bl (bits 20), .bl (bits 21)]) hl
      refine ⟨f10, l, _, _, rfl, rfl, sa _ _ w10, upd_same, (by show 22 ≤ sizeLine; decide), fun f hf => ?_⟩
      exact ⟨f, rfl, s10.trans (sa.trans (same_new hf)), upd_same⟩
    rintro σ G11 ⟨f11, rfl, s11, w11⟩
    have e11 := ea.mono s11
    refine ⟨fun σ H' => ∃ f : Addr, σ = [some (.ref a), some (.ref f), none] ∧ Same H H' ∧ H' f = some (HO.lst [.bl (bits 0), .bl (bits 1), .bl (bits 2), .bl (bits 3), .bl (bits 4), .bl (bits 5), .bl (bits 6), .bl (bits 7), .bl (bits 8), .bl (bits 9), .bl (bits 10), .bl (bits 11), .bl (bits 12), .bl (bits 13), .bl (bits 14), .bl (bits 15), .bl (bits 16), .bl (bits 17), .bl (bits 18), .bl (bits 19), .bl (bits 20), .bl (bits 21), .bl (bits 22), .bl (bits 23)]), ?_, ?_⟩
    · refine ⟨_, rfl, _, rfl, a, C, .ref T.C_UnknownPart, .ref T.C_UnknownPart, bits 22, rfl, .own _, e11, KE, k22, _, rfl, a, C, .ref T.C_UnknownMode, .ref T.C_UnknownMode, bits 23, rfl, .own _, e11, KE, k23, (by show 2 ≤ sizeLine; decide), fun l hl => ?_⟩
      have sa := same_new (o := .lst [.bl (bits 22), .bl (bits 23)]) hl
      refine ⟨f11, l, _, _, rfl, rfl, sa _ _ w11, upd_same, (by show 24 ≤ sizeLine; decide), fun f hf => ?_⟩
      exact ⟨f, rfl, s11.trans (sa.trans (same_new hf)), upd_same⟩
    rintro σ G12 ⟨f12, rfl, s12, w12⟩
    have e12 := ea.mono s12
    refine ⟨fun σ H' => ∃ f : Addr, σ = [some (.ref a), some (.ref f), none] ∧ Same H H' ∧ H' f = some (HO.lst [.bl (bits 0), .bl (bits 1), .bl (bits 2), .bl (bits 3), .bl (bits 4), .bl (bits 5), .bl (bits 6), .bl (bits 7), .bl (bits 8), .bl (bits 9), .bl (bits 10), .bl (bits 11), .bl (bits 12), .bl (bits 13), .bl (bits 14), .bl (bits 15), .bl (bits 16), .bl (bits 17), .bl (bits 18), .bl (bits 19), .bl (bits 20), .bl (bits 21), .bl (bits 22), .bl (bits 23), .bl (bits 24), .bl (bits 25)]), ?_, ?_⟩
    · refine ⟨_, rfl, _, rfl, a, C, .ref T.C_UnknownEntry, .ref T.C_UnknownEntry, bits 24, rfl, .own _, e12, KE, k24, _, rfl, a, C, .ref T.C_NameTaken, .ref T.C_NameTaken, bits 25, rfl, .own _, e12, KE, k25, (by show 2 ≤ sizeLine; decide), fun l hl => ?_⟩
      have sa := same_new (o := .lst [.bl (bits 24), .bl (bits 25)]) hl
      refine ⟨f12, l, _, _, rfl, rfl, sa _ _ w12, upd_same, (by show 26 ≤ sizeLine; decide), fun f hf => ?_⟩
      exact ⟨f, rfl, s12.trans (sa.trans (same_new hf)), upd_same⟩
    rintro σ G13 ⟨f13, rfl, s13, w13⟩
    have e13 := ea.mono s13
    refine ⟨fun σ H' => ∃ f : Addr, σ = [some (.ref a), some (.ref f), none] ∧ Same H H' ∧ H' f = some (HO.lst [.bl (bits 0), .bl (bits 1), .bl (bits 2), .bl (bits 3), .bl (bits 4), .bl (bits 5), .bl (bits 6), .bl (bits 7), .bl (bits 8), .bl (bits 9), .bl (bits 10), .bl (bits 11), .bl (bits 12), .bl (bits 13), .bl (bits 14), .bl (bits 15), .bl (bits 16), .bl (bits 17), .bl (bits 18), .bl (bits 19), .bl (bits 20), .bl (bits 21), .bl (bits 22), .bl (bits 23), .bl (bits 24), .bl (bits 25), .bl (bits 26), .bl (bits 27)]), ?_, ?_⟩
    · refine ⟨_, rfl, _, rfl, a, C, .ref T.C_Overlap, .ref T.C_Overlap, bits 26, rfl, .own _, e13, KE, k26, _, rfl, a, C, .ref T.C_NotInside, .ref T.C_NotInside, bits 27, rfl, .own _, e13, KE, k27, (by show 2 ≤ sizeLine; decide), fun l hl => ?_⟩
      have sa := same_new (o := .lst [.bl (bits 26), .bl (bits 27)]) hl
      refine ⟨f13, l, _, _, rfl, rfl, sa _ _ w13, upd_same, (by show 28 ≤ sizeLine; decide), fun f hf => ?_⟩
      exact ⟨f, rfl, s13.trans (sa.trans (same_new hf)), upd_same⟩
    rintro σ G14 ⟨f14, rfl, s14, w14⟩
    have e14 := ea.mono s14
    refine ⟨fun σ H' => ∃ f : Addr, σ = [some (.ref a), some (.ref f), none] ∧ Same H H' ∧ H' f = some (HO.lst [.bl (bits 0), .bl (bits 1), .bl (bits 2), .bl (bits 3), .bl (bits 4), .bl (bits 5), .bl (bits 6), .bl (bits 7), .bl (bits 8), .bl (bits 9), .bl (bits 10), .bl (bits 11), .bl (bits 12), .bl (bits 13), .bl (bits 14), .bl (bits 15), .bl (bits 16), .bl (bits 17), .bl (bits 18), .bl (bits 19), .bl (bits 20), .bl (bits 21), .bl (bits 22), .bl (bits 23), .bl (bits 24), .bl (bits 25), .bl (bits 26), .bl (bits 27), .bl (bits 28), .bl (bits 29)]), ?_, ?_⟩
    · refine ⟨_, rfl, _, rfl, a, C, .ref T.C_NotNeighbours, .ref T.C_NotNeighbours, bits 28, rfl, .own _, e14, KE, k28, _, rfl, a, C, .ref T.C_NoProgram, .ref T.C_NoProgram, bits 29, rfl, .own _, e14, KE, k29, (by show 2 ≤ sizeLine; decide), fun l hl => ?_⟩
      have sa := same_new (o := .lst [.bl (bits 28), .bl (bits 29)]) hl
      refine ⟨f14, l, _, _, rfl, rfl, sa _ _ w14, upd_same, (by show 30 ≤ sizeLine; decide), fun f hf => ?_⟩
      exact ⟨f, rfl, s14.trans (sa.trans (same_new hf)), upd_same⟩
    rintro σ G15 ⟨f15, rfl, s15, w15⟩
    have e15 := ea.mono s15
    refine ⟨fun σ H' => ∃ f : Addr, σ = [some (.ref a), some (.ref f), none] ∧ Same H H' ∧ H' f = some (HO.lst [.bl (bits 0), .bl (bits 1), .bl (bits 2), .bl (bits 3), .bl (bits 4), .bl (bits 5), .bl (bits 6), .bl (bits 7), .bl (bits 8), .bl (bits 9), .bl (bits 10), .bl (bits 11), .bl (bits 12), .bl (bits 13), .bl (bits 14), .bl (bits 15), .bl (bits 16), .bl (bits 17), .bl (bits 18), .bl (bits 19), .bl (bits 20), .bl (bits 21), .bl (bits 22), .bl (bits 23), .bl (bits 24), .bl (bits 25), .bl (bits 26), .bl (bits 27), .bl (bits 28), .bl (bits 29), .bl (bits 30), .bl (bits 31)]), ?_, ?_⟩
    · refine ⟨_, rfl, _, rfl, a, C, .ref T.C_TooMany, .ref T.C_TooMany, bits 30, rfl, .own _, e15, KE, k30, _, rfl, a, C, .ref T.C_Ended, .ref T.C_Ended, bits 31, rfl, .own _, e15, KE, k31, (by show 2 ≤ sizeLine; decide), fun l hl => ?_⟩
      have sa := same_new (o := .lst [.bl (bits 30), .bl (bits 31)]) hl
      refine ⟨f15, l, _, _, rfl, rfl, sa _ _ w15, upd_same, (by show 32 ≤ sizeLine; decide), fun f hf => ?_⟩
      exact ⟨f, rfl, s15.trans (sa.trans (same_new hf)), upd_same⟩
    rintro σ G16 ⟨f16, rfl, s16, w16⟩
    have e16 := ea.mono s16
    refine ⟨fun σ H' => ∃ f : Addr, σ = [some (.ref a), some (.ref f), none] ∧ Same H H' ∧ H' f = some (HO.lst [.bl (bits 0), .bl (bits 1), .bl (bits 2), .bl (bits 3), .bl (bits 4), .bl (bits 5), .bl (bits 6), .bl (bits 7), .bl (bits 8), .bl (bits 9), .bl (bits 10), .bl (bits 11), .bl (bits 12), .bl (bits 13), .bl (bits 14), .bl (bits 15), .bl (bits 16), .bl (bits 17), .bl (bits 18), .bl (bits 19), .bl (bits 20), .bl (bits 21), .bl (bits 22), .bl (bits 23), .bl (bits 24), .bl (bits 25), .bl (bits 26), .bl (bits 27), .bl (bits 28), .bl (bits 29), .bl (bits 30), .bl (bits 31), .bl (bits 32), .bl (bits 33)]), ?_, ?_⟩
    · refine ⟨_, rfl, _, rfl, a, C, .ref T.C_Waiting, .ref T.C_Waiting, bits 32, rfl, .own _, e16, KE, k32, _, rfl, a, C, .ref T.C_NothingBad, .ref T.C_NothingBad, bits 33, rfl, .own _, e16, KE, k33, (by show 2 ≤ sizeLine; decide), fun l hl => ?_⟩
      have sa := same_new (o := .lst [.bl (bits 32), .bl (bits 33)]) hl
      refine ⟨f16, l, _, _, rfl, rfl, sa _ _ w16, upd_same, (by show 34 ≤ sizeLine; decide), fun f hf => ?_⟩
      exact ⟨f, rfl, s16.trans (sa.trans (same_new hf)), upd_same⟩
    rintro σ G17 ⟨f17, rfl, s17, w17⟩
    have e17 := ea.mono s17
    refine ⟨fun σ H' => ∃ f : Addr, σ = [some (.ref a), some (.ref f), none] ∧ Same H H' ∧ H' f = some (HO.lst [.bl (bits 0), .bl (bits 1), .bl (bits 2), .bl (bits 3), .bl (bits 4), .bl (bits 5), .bl (bits 6), .bl (bits 7), .bl (bits 8), .bl (bits 9), .bl (bits 10), .bl (bits 11), .bl (bits 12), .bl (bits 13), .bl (bits 14), .bl (bits 15), .bl (bits 16), .bl (bits 17), .bl (bits 18), .bl (bits 19), .bl (bits 20), .bl (bits 21), .bl (bits 22), .bl (bits 23), .bl (bits 24), .bl (bits 25), .bl (bits 26), .bl (bits 27), .bl (bits 28), .bl (bits 29), .bl (bits 30), .bl (bits 31), .bl (bits 32), .bl (bits 33), .bl (bits 34), .bl (bits 35)]), ?_, ?_⟩
    · refine ⟨_, rfl, _, rfl, a, C, .ref T.C_NotRight, .ref T.C_NotRight, bits 34, rfl, .own _, e17, KE, k34, _, rfl, a, C, .ref T.C_NoStore, .ref T.C_NoStore, bits 35, rfl, .own _, e17, KE, k35, (by show 2 ≤ sizeLine; decide), fun l hl => ?_⟩
      have sa := same_new (o := .lst [.bl (bits 34), .bl (bits 35)]) hl
      refine ⟨f17, l, _, _, rfl, rfl, sa _ _ w17, upd_same, (by show 36 ≤ sizeLine; decide), fun f hf => ?_⟩
      exact ⟨f, rfl, s17.trans (sa.trans (same_new hf)), upd_same⟩
    rintro σ G18 ⟨f18, rfl, s18, w18⟩
    have e18 := ea.mono s18
    refine ⟨fun σ H' => ∃ f : Addr, σ = [some (.ref a), some (.ref f), none] ∧ Same H H' ∧ H' f = some (HO.lst [.bl (bits 0), .bl (bits 1), .bl (bits 2), .bl (bits 3), .bl (bits 4), .bl (bits 5), .bl (bits 6), .bl (bits 7), .bl (bits 8), .bl (bits 9), .bl (bits 10), .bl (bits 11), .bl (bits 12), .bl (bits 13), .bl (bits 14), .bl (bits 15), .bl (bits 16), .bl (bits 17), .bl (bits 18), .bl (bits 19), .bl (bits 20), .bl (bits 21), .bl (bits 22), .bl (bits 23), .bl (bits 24), .bl (bits 25), .bl (bits 26), .bl (bits 27), .bl (bits 28), .bl (bits 29), .bl (bits 30), .bl (bits 31), .bl (bits 32), .bl (bits 33), .bl (bits 34), .bl (bits 35), .bl (bits 36), .bl (bits 37)]), ?_, ?_⟩
    · refine ⟨_, rfl, _, rfl, a, C, .ref T.C_NothingToUndo, .ref T.C_NothingToUndo, bits 36, rfl, .own _, e18, KE, k36, _, rfl, a, C, .ref T.C_NothingToRedo, .ref T.C_NothingToRedo, bits 37, rfl, .own _, e18, KE, k37, (by show 2 ≤ sizeLine; decide), fun l hl => ?_⟩
      have sa := same_new (o := .lst [.bl (bits 36), .bl (bits 37)]) hl
      refine ⟨f18, l, _, _, rfl, rfl, sa _ _ w18, upd_same, (by show 38 ≤ sizeLine; decide), fun f hf => ?_⟩
      exact ⟨f, rfl, s18.trans (sa.trans (same_new hf)), upd_same⟩
    rintro σ G19 ⟨f19, rfl, s19, w19⟩
    have e19 := ea.mono s19
    have w : G19 f19 = some (HO.lst ((List.range 38).map fun j => V.bl (bits j))) := w19
    clear w0 w1 w2 w3 w4 w5 w6 w7 w8 w9 w10 w11 w12 w13 w14 w15 w16 w17 w18
    have at' : ∀ i : Nat, i < 38 → atI ((List.range 38).map fun j => V.bl (bits j)) (0 + (i : Int)) = some (.bl (bits i)) := fun i hi => by
      rw [Int.zero_add]
      exact atI_nat (by rw [List.getElem?_map, List.getElem?_range hi]; rfl)
    refine ⟨_, rfl, f19, _, rfl, .inl (SqL.of w), _, rfl, (by rw [List.length_map, List.length_range]; decide), (by rw [List.length_map, List.length_range]; decide), fun D hD => ?_⟩
    refine lc_acc walk_range hD (fun _ _ => trivial) (fun i => (((List.range 38).take i).filter bits).map fun j => V.int ((j : Nat) : Int)) rfl (fun i _ => ?_) ?_ ?_
    · rw [List.length_map]
      refine Nat.lt_of_le_of_lt (List.length_filter_le _ _) (Nat.lt_of_le_of_lt (by rw [List.length_take, List.length_range]; exact Nat.min_le_right _ _) (by show 38 < sizeLine; decide))
    · rintro i y H9 hi0 rfl s9 R S r1 r2
      have hi : i < 38 := by
        rw [List.length_map, List.length_range] at hi0
        exact hi0
      have tk : (List.range 38).take (i + 1) = (List.range 38).take i ++ [i] := by
        rw [List.take_add_one, List.getElem?_range hi]
        rfl
      refine ⟨rfl, _, rfl, _, rfl, f19, _, _, .bl (bits i), rfl, rfl, SqL.of (s9 _ _ w), at' i hi, _, rfl, ?_⟩
      cases eb : bits i with
      | true =>
        refine iteT ⟨_, rfl, r1 _ _ ?_ (Same.refl _)⟩
        show _ = _ ++ [V.int (0 + (i : Int))]
        rw [tk, List.filter_append, List.map_append, Int.zero_add]
        simp [eb]
      | false =>
        refine iteF (r2 _ ?_ (Same.refl _))
        rw [tk, List.filter_append, List.map_append]
        simp [eb]
    · intro H9 s9 hl
      refine k D H9 (s19.trans s9) ?_
      rw [hl]
      rw [List.length_map, List.length_range]
      rfl
theorem ok_law_under (T : Txt K mg) : FnOk P w K mg base CX0 1 T.f_law_under T.fd_law_under ["_law_error"] (sp_under K T.C_PartsError) := by
  refine T.F_law_under.ok sc_law_under (fun vs H Q E h => ?_) (fun cdv A outer s H vs Q E hr h => ?_)
  · obtain ⟨a, C, rfl, _⟩ := h
    rfl
  · obtain ⟨a, C, rfl, ea, KE, up, k⟩ := h
    refine ⟨_, (pss_cons (ps_set (i := 1) sc_law_under.nd rfl (Or.inl rfl) (pe_and (pe_callB (id := "isinstance") (r := rIsE K) call_isE (by rfl) T.z_isinstance (by decide +kernel) (pa_cons (pv 0) (pa_cons (pe_glob (v := .ref T.C_PartsError) rfl T.g_PartsError rfl) pa_nil))) (pe_one (pe_callB (id := "isinstance") (r := rIsE K) call_isE (by rfl) T.z_isinstance (by decide +kernel) (pa_cons (pv 0) (pa_cons (pe_bltn (v := .ty "ValueError") (u := .type "ValueError") (by rfl) T.z_ValueError (by decide +kernel) rfl) pa_nil))))))
        (pss_cons (ps_set (i := 2) sc_law_under.nd rfl (Or.inl rfl) (pe_or (pe_callB (id := "isinstance") (r := rIsE K) call_isE (by rfl) T.z_isinstance (by decide +kernel) (pa_cons (pv 0) (pa_cons (pe_bltn (v := .ty "KeyError") (u := .type "KeyError") (by rfl) T.z_KeyError (by decide +kernel) rfl) pa_nil))) (pe_or (pe_callB (id := "isinstance") (r := rIsE K) call_isE (by rfl) T.z_isinstance (by decide +kernel) (pa_cons (pv 0) (pa_cons (pe_bltn (v := .ty "IndexError") (u := .type "IndexError") (by rfl) T.z_IndexError (by decide +kernel) rfl) pa_nil))) (pe_one (pe_callB (id := "isinstance") (r := rIsE K) call_isE (by rfl) T.z_isinstance (by decide +kernel) (pa_cons (pv 0) (pa_cons (pe_bltn (v := .ty "TypeError") (u := .type "TypeError") (by rfl) T.z_TypeError (by decide +kernel) rfl) pa_nil)))))))
        (pss_one (ps_ret (pe_and (pv 1) (pe_one (pe_not (pv 2)))))))), ?_⟩
    unfold kitUp at up
    simp only [Bool.and_eq_true, decide_eq_true_iff] at up
    obtain ⟨u1, u2, u3, u4, u5⟩ := up
    refine ⟨_, rfl, a, C, _, _, true, rfl, .own _, ea, KE, u1, _, rfl, iteT ⟨_, rfl, a, C, _, _, true, rfl, .ty _, ea, KE, u2, ?_⟩⟩
    refine ⟨_, rfl, a, C, _, _, false, rfl, .ty _, ea, KE, u3, _, rfl, iteF ⟨_, rfl, a, C, _, _, false, rfl, .ty _, ea, KE, u4, _, rfl, iteF ⟨_, rfl, a, C, _, _, false, rfl, .ty _, ea, KE, u5, ?_⟩⟩⟩
    exact ⟨_, rfl, _, rfl, iteT ⟨_, rfl, _, rfl, k⟩⟩
theorem ok_law_made (T : Txt K mg) : FnOk P w K mg base CX0 3 T.f_law_made T.fd_law_made ["_law_thing"] (sp_made (Ps T)) := by
  refine T.F_law_made.ok sc_law_made (fun vs H Q E h => ?_) (fun cdv A outer s H vs Q E hr h => ?_)
  · obtain ⟨v, rfl, _⟩ := h
    rfl
  · obtain ⟨v, rfl, k⟩ := h
    refine ⟨_, (pss_cons (ps_set (i := 1) sc_law_made.nd rfl (Or.inl rfl) (pe_lst pa_nil))
        (pss_cons (ps_set (i := 1) sc_law_made.nd rfl (Or.inl rfl) (pe_op op_cat (pv 1) (pe_lst (pa_cons (pe_oexV T.x_InvalidName T.i_InvalidName T.t_InvalidName (ok_InvalidName_init T) hr T.b_InvalidName_init pass0 rfl T.g_InvalidName (pa_cons (pv 0) pa_nil)) (pa_cons (pe_oexV T.x_InvalidKey T.i_InvalidKey T.t_InvalidKey (ok_InvalidKey_init T) hr T.b_InvalidKey_init pass0 rfl T.g_InvalidKey (pa_cons (pv 0) pa_nil)) (pa_cons (pe_oexV T.x_InvalidSpan T.i_InvalidSpan T.t_InvalidSpan (ok_InvalidSpan_init T) hr T.b_InvalidSpan_init pass0 rfl T.g_InvalidSpan (pa_cons (pv 0) pa_nil)) (pa_cons (pe_oexV T.x_InvalidSpans T.i_InvalidSpans T.t_InvalidSpans (ok_InvalidSpans_init T) hr T.b_InvalidSpans_init pass0 rfl T.g_InvalidSpans (pa_cons (pv 0) pa_nil)) pa_nil)))))))
        (pss_cons (ps_set (i := 1) sc_law_made.nd rfl (Or.inl rfl) (pe_op op_cat (pv 1) (pe_lst (pa_cons (pe_oexV T.x_InvalidCatalog T.i_InvalidCatalog T.t_InvalidCatalog (ok_InvalidCatalog_init T) hr T.b_InvalidCatalog_init pass0 rfl T.g_InvalidCatalog (pa_cons (pv 0) pa_nil)) (pa_cons (pe_oexV T.x_InvalidChange T.i_InvalidChange T.t_InvalidChange (ok_InvalidChange_init T) hr T.b_InvalidChange_init pass0 rfl T.g_InvalidChange (pa_cons (pv 0) pa_nil)) (pa_cons (pe_oexV T.x_InvalidModes T.i_InvalidModes T.t_InvalidModes (ok_InvalidModes_init T) hr T.b_InvalidModes_init pass0 rfl T.g_InvalidModes (pa_cons (pv 0) pa_nil)) pa_nil))))))
        (pss_cons (ps_set (i := 1) sc_law_made.nd rfl (Or.inl rfl) (pe_op op_cat (pv 1) (pe_lst (pa_cons (pe_oexV T.x_InvalidClash T.i_InvalidClash T.t_InvalidClash (ok_InvalidClash_init T) hr T.b_InvalidClash_init pass0 rfl T.g_InvalidClash (pa_cons (pv 0) pa_nil)) (pa_cons (pe_oexV T.x_InvalidStrengths T.i_InvalidStrengths T.t_InvalidStrengths (ok_InvalidStrengths_init T) hr T.b_InvalidStrengths_init pass0 rfl T.g_InvalidStrengths (pa_cons (pv 0) pa_nil)) (pa_cons (pe_oexV T.x_InvalidProgram T.i_InvalidProgram T.t_InvalidProgram (ok_InvalidProgram_init T) hr T.b_InvalidProgram_init pass0 rfl T.g_InvalidProgram (pa_cons (pv 0) pa_nil)) pa_nil))))))
        (pss_cons (ps_set (i := 1) sc_law_made.nd rfl (Or.inl rfl) (pe_op op_cat (pv 1) (pe_lst (pa_cons (pe_oexV T.x_InvalidPrograms T.i_InvalidPrograms T.t_InvalidPrograms (ok_InvalidPrograms_init T) hr T.b_InvalidPrograms_init pass0 rfl T.g_InvalidPrograms (pa_cons (pv 0) pa_nil)) (pa_cons (pe_oexV T.x_InvalidProtocol T.i_InvalidProtocol T.t_InvalidProtocol (ok_InvalidProtocol_init T) hr T.b_InvalidProtocol_init pass0 rfl T.g_InvalidProtocol (pa_cons (pv 0) pa_nil)) (pa_cons (pe_oexV T.x_InvalidRows T.i_InvalidRows T.t_InvalidRows (ok_InvalidRows_init T) hr T.b_InvalidRows_init pass0 rfl T.g_InvalidRows (pa_cons (pv 0) pa_nil)) pa_nil))))))
        (pss_cons (ps_set (i := 1) sc_law_made.nd rfl (Or.inl rfl) (pe_op op_cat (pv 1) (pe_lst (pa_cons (pe_oexV T.x_InvalidSession T.i_InvalidSession T.t_InvalidSession (ok_InvalidSession_init T) hr T.b_InvalidSession_init pass0 rfl T.g_InvalidSession (pa_cons (pv 0) pa_nil)) (pa_cons (pe_oexV T.x_InvalidNumber T.i_InvalidNumber T.t_InvalidNumber (ok_InvalidNumber_init T) hr T.b_InvalidNumber_init pass0 rfl T.g_InvalidNumber (pa_cons (pv 0) pa_nil)) (pa_cons (pe_oexV T.x_InvalidWeaving T.i_InvalidWeaving T.t_InvalidWeaving (ok_InvalidWeaving_init T) hr T.b_InvalidWeaving_init pass0 rfl T.g_InvalidWeaving (pa_cons (pv 0) pa_nil)) pa_nil))))))
        (pss_cons (ps_set (i := 1) sc_law_made.nd rfl (Or.inl rfl) (pe_op op_cat (pv 1) (pe_lst (pa_cons (pe_oexV T.x_InvalidStore T.i_InvalidStore T.t_InvalidStore (ok_InvalidStore_init T) hr T.b_InvalidStore_init pass0 rfl T.g_InvalidStore (pa_cons (pv 0) pa_nil)) (pa_cons (pe_oexV T.x_InvalidScene T.i_InvalidScene T.t_InvalidScene (ok_InvalidScene_init T) hr T.b_InvalidScene_init pass0 rfl T.g_InvalidScene (pa_cons (pv 0) pa_nil)) (pa_cons (pe_oexV T.x_InvalidLog T.i_InvalidLog T.t_InvalidLog (ok_InvalidLog_init T) hr T.b_InvalidLog_init pass0 rfl T.g_InvalidLog (pa_cons (pv 0) pa_nil)) pa_nil))))))
        (pss_cons (ps_set (i := 1) sc_law_made.nd rfl (Or.inl rfl) (pe_op op_cat (pv 1) (pe_lst (pa_cons (pe_oexV T.x_InvalidText T.i_InvalidText T.t_InvalidText (ok_InvalidText_init T) hr T.b_InvalidText_init pass0 rfl T.g_InvalidText (pa_cons (pv 0) pa_nil)) (pa_cons (pe_oexV T.x_InvalidCommand T.i_InvalidCommand T.t_InvalidCommand (ok_InvalidCommand_init T) hr T.b_InvalidCommand_init pass0 rfl T.g_InvalidCommand (pa_cons (pv 0) pa_nil)) (pa_cons (pe_oexV T.x_Duplicate T.i_Duplicate T.t_Duplicate (ok_Duplicate_init T) hr T.b_Duplicate_init pass0 rfl T.g_Duplicate (pa_cons (pv 0) pa_nil)) pa_nil))))))
        (pss_cons (ps_set (i := 1) sc_law_made.nd rfl (Or.inl rfl) (pe_op op_cat (pv 1) (pe_lst (pa_cons (pe_oexV T.x_UnknownPart T.i_UnknownPart T.t_UnknownPart (ok_UnknownPart_init T) hr T.b_UnknownPart_init pass0 rfl T.g_UnknownPart (pa_cons (pv 0) pa_nil)) (pa_cons (pe_oexV T.x_UnknownMode T.i_UnknownMode T.t_UnknownMode (ok_UnknownMode_init T) hr T.b_UnknownMode_init pass0 rfl T.g_UnknownMode (pa_cons (pv 0) pa_nil)) (pa_cons (pe_oexV T.x_UnknownEntry T.i_UnknownEntry T.t_UnknownEntry (ok_UnknownEntry_init T) hr T.b_UnknownEntry_init pass0 rfl T.g_UnknownEntry (pa_cons (pv 0) pa_nil)) (pa_cons (pe_oexV T.x_NameTaken T.i_NameTaken T.t_NameTaken (ok_NameTaken_init T) hr T.b_NameTaken_init pass0 rfl T.g_NameTaken (pa_cons (pv 0) pa_nil)) pa_nil)))))))
        (pss_cons (ps_set (i := 1) sc_law_made.nd rfl (Or.inl rfl) (pe_op op_cat (pv 1) (pe_lst (pa_cons (pe_oexV T.x_Overlap T.i_Overlap T.t_Overlap (ok_Overlap_init T) hr T.b_Overlap_init pass0 rfl T.g_Overlap (pa_cons (pv 0) pa_nil)) (pa_cons (pe_oexV T.x_NotInside T.i_NotInside T.t_NotInside (ok_NotInside_init T) hr T.b_NotInside_init pass0 rfl T.g_NotInside (pa_cons (pv 0) pa_nil)) (pa_cons (pe_oexV T.x_NotNeighbours T.i_NotNeighbours T.t_NotNeighbours (ok_NotNeighbours_init T) hr T.b_NotNeighbours_init pass0 rfl T.g_NotNeighbours (pa_cons (pv 0) pa_nil)) (pa_cons (pe_oexV T.x_NoProgram T.i_NoProgram T.t_NoProgram (ok_NoProgram_init T) hr T.b_NoProgram_init pass0 rfl T.g_NoProgram (pa_cons (pv 0) pa_nil)) pa_nil)))))))
        (pss_cons (ps_set (i := 1) sc_law_made.nd rfl (Or.inl rfl) (pe_op op_cat (pv 1) (pe_lst (pa_cons (pe_oexV T.x_TooMany T.i_TooMany T.t_TooMany (ok_TooMany_init T) hr T.b_TooMany_init pass0 rfl T.g_TooMany (pa_cons (pv 0) pa_nil)) (pa_cons (pe_oexV T.x_Ended T.i_Ended T.t_Ended (ok_Ended_init T) hr T.b_Ended_init pass0 rfl T.g_Ended (pa_cons (pv 0) pa_nil)) (pa_cons (pe_oexV T.x_Waiting T.i_Waiting T.t_Waiting (ok_Waiting_init T) hr T.b_Waiting_init pass0 rfl T.g_Waiting (pa_cons (pv 0) pa_nil)) (pa_cons (pe_excV0 PySem.F.excBase_ValueError T.q_NothingBad T.g_NothingBad T.kp_NothingBad rfl) (pa_cons (pe_excV0 PySem.F.excBase_ValueError T.q_NotRight T.g_NotRight T.kp_NotRight rfl) pa_nil))))))))
        (pss_cons (ps_set (i := 1) sc_law_made.nd rfl (Or.inl rfl) (pe_op op_cat (pv 1) (pe_lst (pa_cons (pe_excV0 PySem.F.excBase_ValueError T.q_NoStore T.g_NoStore T.kp_NoStore rfl) (pa_cons (pe_excV0 PySem.F.excBase_ValueError T.q_NothingToUndo T.g_NothingToUndo T.kp_NothingToUndo rfl) (pa_cons (pe_excV0 PySem.F.excBase_ValueError T.q_NothingToRedo T.g_NothingToRedo T.kp_NothingToRedo rfl) pa_nil))))))
        (pss_one (ps_ret (pv 1))))))))))))))), ?_⟩
    refine ⟨Nat.zero_le _, fun f0 h0 => ?_⟩
    have s0 := same_new (o := .lst []) h0
    have w0 : (upd H f0 (.lst [])) f0 = some (.lst ([] : List V)) := upd_same
    have x0 : AllX v (upd H f0 (.lst [])) [] [] := .nil
    refine ⟨_, rfl, ?_⟩
    refine ⟨_, rfl, (by show 1 ≤ 1000; decide), fun a0 na0 => ⟨a0, v, rfl, T.x_InvalidName, T.n_InvalidName, upd_same, fun dx0 hdx0 ne0 => ⟨rfl, ?_⟩⟩⟩
    obtain ⟨sm0, mx0⟩ := made_x (C := T.C_InvalidName) (f := "value") (v := v) na0 hdx0 ne0
    refine ⟨_, rfl, (by show 1 ≤ 1000; decide), fun a1 na1 => ⟨a1, v, rfl, T.x_InvalidKey, T.n_InvalidKey, upd_same, fun dx1 hdx1 ne1 => ⟨rfl, ?_⟩⟩⟩
    obtain ⟨sm1, mx1⟩ := made_x (C := T.C_InvalidKey) (f := "value") (v := v) na1 hdx1 ne1
    refine ⟨_, rfl, (by show 1 ≤ 1000; decide), fun a2 na2 => ⟨a2, v, rfl, T.x_InvalidSpan, T.n_InvalidSpan, upd_same, fun dx2 hdx2 ne2 => ⟨rfl, ?_⟩⟩⟩
    obtain ⟨sm2, mx2⟩ := made_x (C := T.C_InvalidSpan) (f := "value") (v := v) na2 hdx2 ne2
    refine ⟨_, rfl, (by show 1 ≤ 1000; decide), fun a3 na3 => ⟨a3, v, rfl, T.x_InvalidSpans, T.n_InvalidSpans, upd_same, fun dx3 hdx3 ne3 => ⟨rfl, ?_⟩⟩⟩
    obtain ⟨sm3, mx3⟩ := made_x (C := T.C_InvalidSpans) (f := "value") (v := v) na3 hdx3 ne3
    refine ⟨(by show 4 ≤ sizeLine; decide), fun l0 hl0 => ?_⟩
    have sl0 := same_new (o := .lst [.ref a0, .ref a1, .ref a2, .ref a3]) hl0
    have sr0 := sm0.trans (sm1.trans (sm2.trans (sm3.trans (sl0))))
    have xr0 : AllX v _ [a0, a1, a2, a3] [(T.C_InvalidName, some ("value" : Str)), (T.C_InvalidKey, some ("value" : Str)), (T.C_InvalidSpan, some ("value" : Str)), (T.C_InvalidSpans, some ("value" : Str))] := .fld (mx0.mono (sm1.trans (sm2.trans (sm3.trans (sl0))))) (.fld (mx1.mono (sm2.trans (sm3.trans (sl0)))) (.fld (mx2.mono (sm3.trans (sl0))) (.fld (mx3.mono (sl0)) (.nil))))
    refine ⟨f0, l0, _, _, rfl, rfl, sr0 _ _ w0, upd_same, (by show 4 ≤ sizeLine; decide), fun f1 h1 => ?_⟩
    obtain ⟨G1, eG1, sb0, v1⟩ := upd_known (o := .lst ([] ++ [.ref a0, .ref a1, .ref a2, .ref a3])) h1
    rw [← eG1]
    have s1 := s0.trans (sr0.trans sb0)
    have x1 := ((x0.mono sr0).app xr0).mono sb0
    have w1 : G1 f1 = some (HO.lst [.ref a0, .ref a1, .ref a2, .ref a3]) := v1
    refine ⟨_, rfl, ?_⟩
    refine ⟨_, rfl, (by show 1 ≤ 1000; decide), fun a4 na4 => ⟨a4, v, rfl, T.x_InvalidCatalog, T.n_InvalidCatalog, upd_same, fun dx4 hdx4 ne4 => ⟨rfl, ?_⟩⟩⟩
    obtain ⟨sm4, mx4⟩ := made_x (C := T.C_InvalidCatalog) (f := "value") (v := v) na4 hdx4 ne4
    refine ⟨_, rfl, (by show 1 ≤ 1000; decide), fun a5 na5 => ⟨a5, v, rfl, T.x_InvalidChange, T.n_InvalidChange, upd_same, fun dx5 hdx5 ne5 => ⟨rfl, ?_⟩⟩⟩
    obtain ⟨sm5, mx5⟩ := made_x (C := T.C_InvalidChange) (f := "value") (v := v) na5 hdx5 ne5
    refine ⟨_, rfl, (by show 1 ≤ 1000; decide), fun a6 na6 => ⟨a6, v, rfl, T.x_InvalidModes, T.n_InvalidModes, upd_same, fun dx6 hdx6 ne6 => ⟨rfl, ?_⟩⟩⟩
    obtain ⟨sm6, mx6⟩ := made_x (C := T.C_InvalidModes) (f := "value") (v := v) na6 hdx6 ne6
    refine ⟨(by show 3 ≤ sizeLine; decide), fun l1 hl1 => ?_⟩
    have sl1 := same_new (o := .lst [.ref a4, .ref a5, .ref a6]) hl1
    have sr1 := sm4.trans (sm5.trans (sm6.trans (sl1)))
    have xr1 : AllX v _ [a4, a5, a6] [(T.C_InvalidCatalog, some ("value" : Str)), (T.C_InvalidChange, some ("value" : Str)), (T.C_InvalidModes, some ("value" : Str))] := .fld (mx4.mono (sm5.trans (sm6.trans (sl1)))) (.fld (mx5.mono (sm6.trans (sl1))) (.fld (mx6.mono (sl1)) (.nil)))
    refine ⟨f1, l1, _, _, rfl, rfl, sr1 _ _ w1, upd_same, (by show 7 ≤ sizeLine; decide), fun f2 h2 => ?_⟩
    obtain ⟨G2, eG2, sb1, v2⟩ := upd_known (o := .lst ([.ref a0, .ref a1, .ref a2, .ref a3] ++ [.ref a4, .ref a5, .ref a6])) h2
    rw [← eG2]
    have s2 := s1.trans (sr1.trans sb1)
    have x2 := ((x1.mono sr1).app xr1).mono sb1
    have w2 : G2 f2 = some (HO.lst [.ref a0, .ref a1, .ref a2, .ref a3, .ref a4, .ref a5, .ref a6]) := v2
    refine ⟨_, rfl, ?_⟩
    refine ⟨_, rfl, (by show 1 ≤ 1000; decide), fun a7 na7 => ⟨a7, v, rfl, T.x_InvalidClash, T.n_InvalidClash, upd_same, fun dx7 hdx7 ne7 => ⟨rfl, ?_⟩⟩⟩
    obtain ⟨sm7, mx7⟩ := made_x (C := T.C_InvalidClash) (f := "value") (v := v) na7 hdx7 ne7
    refine ⟨_, rfl, (by show 1 ≤ 1000; decide), fun a8 na8 => ⟨a8, v, rfl, T.x_InvalidStrengths, T.n_InvalidStrengths, upd_same, fun dx8 hdx8 ne8 => ⟨rfl, ?_⟩⟩⟩
    obtain ⟨sm8, mx8⟩ := made_x (C := T.C_InvalidStrengths) (f := "value") (v := v) na8 hdx8 ne8
    refine ⟨_, rfl, (by show 1 ≤ 1000; decide), fun a9 na9 => ⟨a9, v, rfl, T.x_InvalidProgram, T.n_InvalidProgram, upd_same, fun dx9 hdx9 ne9 => ⟨rfl, ?_⟩⟩⟩
    obtain ⟨sm9, mx9⟩ := made_x (C := T.C_InvalidProgram) (f := "value") (v := v) na9 hdx9 ne9
    refine ⟨(by show 3 ≤ sizeLine; decide), fun l2 hl2 => ?_⟩
    have sl2 := same_new (o := .lst [.ref a7, .ref a8, .ref a9]) hl2
    have sr2 := sm7.trans (sm8.trans (sm9.trans (sl2)))
    have xr2 : AllX v _ [a7, a8, a9] [(T.C_InvalidClash, some ("value" : Str)), (T.C_InvalidStrengths, some ("value" : Str)), (T.C_InvalidProgram, some ("value" : Str))] := .fld (mx7.mono (sm8.trans (sm9.trans (sl2)))) (.fld (mx8.mono (sm9.trans (sl2))) (.fld (mx9.mono (sl2)) (.nil)))
    refine ⟨f2, l2, _, _, rfl, rfl, sr2 _ _ w2, upd_same, (by show 10 ≤ sizeLine; decide), fun f3 h3 => ?_⟩
    obtain ⟨G3, eG3, sb2, v3⟩ := upd_known (o := .lst ([.ref a0, .ref a1, .ref a2, .ref a3, .ref a4, .ref a5, .ref a6] ++ [.ref a7, .ref a8, .ref a9])) h3
    rw [← eG3]
    have s3 := s2.trans (sr2.trans sb2)
    have x3 := ((x2.mono sr2).app xr2).mono sb2
    have w3 : G3 f3 = some (HO.lst [.ref a0, .ref a1, .ref a2, .ref a3, .ref a4, .ref a5, .ref a6, .ref a7, .ref a8, .ref a9]) := v3
    refine ⟨_, rfl, ?_⟩
    refine ⟨_, rfl, (by show 1 ≤ 1000; decide), fun a10 na10 => ⟨a10, v, rfl, T.x_InvalidPrograms, T.n_InvalidPrograms, upd_same, fun dx10 hdx10 ne10 => ⟨rfl, ?_⟩⟩⟩
    obtain ⟨sm10, mx10⟩ := made_x (C := T.C_InvalidPrograms) (f := "value") (v := v) na10 hdx10 ne10
    refine ⟨_, rfl, (by show 1 ≤ 1000; decide), fun a11 na11 => ⟨a11, v, rfl, T.x_InvalidProtocol, T.n_InvalidProtocol, upd_same, fun dx11 hdx11 ne11 => ⟨rfl, ?_⟩⟩⟩
    obtain ⟨sm11, mx11⟩ := made_x (C := T.C_InvalidProtocol) (f := "value") (v := v) na11 hdx11 ne11
    refine ⟨_, rfl, (by show 1 ≤ 1000; decide), fun a12 na12 => ⟨a12, v, rfl, T.x_InvalidRows, T.n_InvalidRows, upd_same, fun dx12 hdx12 ne12 => ⟨rfl, ?_⟩⟩⟩
    obtain ⟨sm12, mx12⟩ := made_x (C := T.C_InvalidRows) (f := "value") (v := v) na12 hdx12 ne12
    refine ⟨(by show 3 ≤ sizeLine; decide), fun l3 hl3 => ?_⟩
    have sl3 := same_new (o := .lst [.ref a10, .ref a11, .ref a12]) hl3
    have sr3 := sm10.trans (sm11.trans (sm12.trans (sl3)))
    have xr3 : AllX v _ [a10, a11, a12] [(T.C_InvalidPrograms, some ("value" : Str)), (T.C_InvalidProtocol, some ("value" : Str)), (T.C_InvalidRows, some ("value" : Str))] := .fld (mx10.mono (sm11.trans (sm12.trans (sl3)))) (.fld (mx11.mono (sm12.trans (sl3))) (.fld (mx12.mono (sl3)) (.nil)))
    refine ⟨f3, l3, _, _, rfl, rfl, sr3 _ _ w3, upd_same, (by show 13 ≤ sizeLine; decide), fun f4 h4 => ?_⟩
    obtain ⟨G4, eG4, sb3, v4⟩ := upd_known (o := .lst ([.ref a0, .ref a1, .ref a2, .ref a3, .ref a4, .ref a5, .ref a6, .ref a7, .ref a8, .ref a9] ++ [.ref a10, .ref a11, .ref a12])) h4
    rw [← eG4]
    have s4 := s3.trans (sr3.trans sb3)
    have x4 := ((x3.mono sr3).app xr3).mono sb3
    have w4 : G4 f4 = some (HO.lst [.ref a0, .ref a1, .ref a2, .ref a3, .ref a4, .ref a5, .ref a6, .ref a7, .ref a8, .ref a9, .ref a10, .ref a11, .ref a12]) := v4
    refine ⟨_, rfl, ?_⟩
    refine ⟨_, rfl, (by show 1 ≤ 1000; decide), fun a13 na13 => ⟨a13, v, rfl, T.x_InvalidSession, T.n_InvalidSession, upd_same, fun dx13 hdx13 ne13 => ⟨rfl, ?_⟩⟩⟩
    obtain ⟨sm13, mx13⟩ := made_x (C := T.C_InvalidSession) (f := "value") (v := v) na13 hdx13 ne13
    refine ⟨_, rfl, (by show 1 ≤ 1000; decide), fun a14 na14 => ⟨a14, v, rfl, T.x_InvalidNumber, T.n_InvalidNumber, upd_same, fun dx14 hdx14 ne14 => ⟨rfl, ?_⟩⟩⟩
    obtain ⟨sm14, mx14⟩ := made_x (C := T.C_InvalidNumber) (f := "value") (v := v) na14 hdx14 ne14
    refine ⟨_, rfl, (by show 1 ≤ 1000; decide), fun a15 na15 => ⟨a15, v, rfl, T.x_InvalidWeaving, T.n_InvalidWeaving, upd_same, fun dx15 hdx15 ne15 => ⟨rfl, ?_⟩⟩⟩
    obtain ⟨sm15, mx15⟩ := made_x (C := T.C_InvalidWeaving) (f := "value") (v := v) na15 hdx15 ne15
    refine ⟨(by show 3 ≤ sizeLine; decide), fun l4 hl4 => ?_⟩
    have sl4 := same_new (o := .lst [.ref a13, .ref a14, .ref a15]) hl4
    have sr4 := sm13.trans (sm14.trans (sm15.trans (sl4)))
    have xr4 : AllX v _ [a13, a14, a15] [(T.C_InvalidSession, some ("value" : Str)), (T.C_InvalidNumber, some ("value" : Str)), (T.C_InvalidWeaving, some ("value" : Str))] := .fld (mx13.mono (sm14.trans (sm15.trans (sl4)))) (.fld (mx14.mono (sm15.trans (sl4))) (.fld (mx15.mono (sl4)) (.nil)))
    refine ⟨f4, l4, _, _, rfl, rfl, sr4 _ _ w4, upd_same, (by show 16 ≤ sizeLine; decide), fun f5 h5 => ?_⟩
    obtain ⟨G5, eG5, sb4, v5⟩ := upd_known (o := .lst ([.ref a0, .ref a1, .ref a2, .ref a3, .ref a4, .ref a5, .ref a6, .ref a7, .ref a8, .ref a9, .ref a10, .ref a11, .ref a12] ++ [.ref a13, .ref a14, .ref a15])) h5
    rw [← eG5]
    have s5 := s4.trans (sr4.trans sb4)
    have x5 := ((x4.mono sr4).app xr4).mono sb4
    have w5 : G5 f5 = some (HO.lst [.ref a0, .ref a1, .ref a2, .ref a3, .ref a4, .ref a5, .ref a6, .ref a7, .ref a8, .ref a9, .ref a10, .ref a11, .ref a12, .ref a13, .ref a14, .ref a15]) := v5
    refine ⟨_, rfl, ?_⟩
    refine ⟨_, rfl, (by show 1 ≤ 1000; decide), fun a16 na16 => ⟨a16, v, rfl, T.x_InvalidStore, T.n_InvalidStore, upd_same, fun dx16 hdx16 ne16 => ⟨rfl, ?_⟩⟩⟩
    obtain ⟨sm16, mx16⟩ := made_x (C := T.C_InvalidStore) (f := "value") (v := v) na16 hdx16 ne16
    refine ⟨_, rfl, (by show 1 ≤ 1000; decide), fun a17 na17 => ⟨a17, v, rfl, T.x_InvalidScene, T.n_InvalidScene, upd_same, fun dx17 hdx17 ne17 => ⟨rfl, ?_⟩⟩⟩
    obtain ⟨sm17, mx17⟩ := made_x (C := T.C_InvalidScene) (f := "value") (v := v) na17 hdx17 ne17
    refine ⟨_, rfl, (by show 1 ≤ 1000; decide), fun a18 na18 => ⟨a18, v, rfl, T.x_InvalidLog, T.n_InvalidLog, upd_same, fun dx18 hdx18 ne18 => ⟨rfl, ?_⟩⟩⟩
    obtain ⟨sm18, mx18⟩ := made_x (C := T.C_InvalidLog) (f := "value") (v := v) na18 hdx18 ne18
    refine ⟨(by show 3 ≤ sizeLine; decide), fun l5 hl5 => ?_⟩
    have sl5 := same_new (o := .lst [.ref a16, .ref a17, .ref a18]) hl5
    have sr5 := sm16.trans (sm17.trans (sm18.trans (sl5)))
    have xr5 : AllX v _ [a16, a17, a18] [(T.C_InvalidStore, some ("value" : Str)), (T.C_InvalidScene, some ("value" : Str)), (T.C_InvalidLog, some ("value" : Str))] := .fld (mx16.mono (sm17.trans (sm18.trans (sl5)))) (.fld (mx17.mono (sm18.trans (sl5))) (.fld (mx18.mono (sl5)) (.nil)))
    refine ⟨f5, l5, _, _, rfl, rfl, sr5 _ _ w5, upd_same, (by show 19 ≤ sizeLine; decide), fun f6 h6 => ?_⟩
    obtain ⟨G6, eG6, sb5, v6⟩ := upd_known (o := .lst ([.ref a0, .ref a1, .ref a2, .ref a3, .ref a4, .ref a5, .ref a6, .ref a7, .ref a8, .ref a9, .ref a10, .ref a11, .ref a12, .ref a13, .ref a14, .ref a15] ++ [.ref a16, .ref a17, .ref a18])) h6
    rw [← eG6]
    have s6 := s5.trans (sr5.trans sb5)
    have x6 := ((x5.mono sr5).app xr5).mono sb5
    have w6 : G6 f6 = some (HO.lst [.ref a0, .ref a1, .ref a2, .ref a3, .ref a4, .ref a5, .ref a6, .ref a7, .ref a8, .ref a9, .ref a10, .ref a11, .ref a12, .ref a13, .ref a14, .ref a15, .ref a16, .ref a17, .ref a18]) := v6
    refine ⟨_, rfl, ?_⟩
    refine ⟨_, rfl, (by show 1 ≤ 1000; decide), fun a19 na19 => ⟨a19, v, rfl, T.x_InvalidText, T.n_InvalidText, upd_same, fun dx19 hdx19 ne19 => ⟨rfl, ?_⟩⟩⟩
    obtain ⟨sm19, mx19⟩ := made_x (C := T.C_InvalidText) (f := "value") (v := v) na19 hdx19 ne19
    refine ⟨_, rfl, (by show 1 ≤ 1000; decide), fun a20 na20 => ⟨a20, v, rfl, T.x_InvalidCommand, T.n_InvalidCommand, upd_same, fun dx20 hdx20 ne20 => ⟨rfl, ?_⟩⟩⟩
    obtain ⟨sm20, mx20⟩ := made_x (C := T.C_InvalidCommand) (f := "value") (v := v) na20 hdx20 ne20
    refine ⟨_, rfl, (by show 1 ≤ 1000; decide), fun a21 na21 => ⟨a21, v, rfl, T.x_Duplicate, T.n_Duplicate, upd_same, fun dx21 hdx21 ne21 => ⟨rfl, ?_⟩⟩⟩
    obtain ⟨sm21, mx21⟩ := made_x (C := T.C_Duplicate) (f := "name") (v := v) na21 hdx21 ne21
    refine ⟨(by show 3 ≤ sizeLine; decide), fun l6 hl6 => ?_⟩
    have sl6 := same_new (o := .lst [.ref a19, .ref a20, .ref a21]) hl6
    have sr6 := sm19.trans (sm20.trans (sm21.trans (sl6)))
    have xr6 : AllX v _ [a19, a20, a21] [(T.C_InvalidText, some ("value" : Str)), (T.C_InvalidCommand, some ("value" : Str)), (T.C_Duplicate, some ("name" : Str))] := .fld (mx19.mono (sm20.trans (sm21.trans (sl6)))) (.fld (mx20.mono (sm21.trans (sl6))) (.fld (mx21.mono (sl6)) (.nil)))
    refine ⟨f6, l6, _, _, rfl, rfl, sr6 _ _ w6, upd_same, (by show 22 ≤ sizeLine; decide), fun f7 h7 => ?_⟩
    obtain ⟨G7, eG7, sb6, v7⟩ := upd_known (o := .lst ([.ref a0, .ref a1, .ref a2, .ref a3, .ref a4, .ref a5, .ref a6, .ref a7, .ref a8, .ref a9, .ref a10, .ref a11, .ref a12, .ref a13, .ref a14, .ref a15, .ref a16, .ref a17, .ref a18] ++ [.ref a19, .ref a20, .ref a21])) h7
    rw [← eG7]
    have s7 := s6.trans (sr6.trans sb6)
    have x7 := ((x6.mono sr6).app xr6).mono sb6
    have w7 : G7 f7 = some (HO.lst [.ref a0, .ref a1, .ref a2, .ref a3, .ref a4, .ref a5, .ref a6, .ref a7, .ref a8, .ref a9, .ref a10, .ref a11, .ref a12, .ref a13, .ref a14, .ref a15, .ref a16, .ref a17, .ref a18, .ref a19, .ref a20, .ref a21]) := v7
    refine ⟨_, rfl, ?_⟩
    refine ⟨_, rfl, (by show 1 ≤ 1000; decide), fun a22 na22 => ⟨a22, v, rfl, T.x_UnknownPart, T.n_UnknownPart, upd_same, fun dx22 hdx22 ne22 => ⟨rfl, ?_⟩⟩⟩
    obtain ⟨sm22, mx22⟩ := made_x (C := T.C_UnknownPart) (f := "name") (v := v) na22 hdx22 ne22
    refine ⟨_, rfl, (by show 1 ≤ 1000; decide), fun a23 na23 => ⟨a23, v, rfl, T.x_UnknownMode, T.n_UnknownMode, upd_same, fun dx23 hdx23 ne23 => ⟨rfl, ?_⟩⟩⟩
    obtain ⟨sm23, mx23⟩ := made_x (C := T.C_UnknownMode) (f := "name") (v := v) na23 hdx23 ne23
    refine ⟨_, rfl, (by show 1 ≤ 1000; decide), fun a24 na24 => ⟨a24, v, rfl, T.x_UnknownEntry, T.n_UnknownEntry, upd_same, fun dx24 hdx24 ne24 => ⟨rfl, ?_⟩⟩⟩
    obtain ⟨sm24, mx24⟩ := made_x (C := T.C_UnknownEntry) (f := "name") (v := v) na24 hdx24 ne24
    refine ⟨_, rfl, (by show 1 ≤ 1000; decide), fun a25 na25 => ⟨a25, v, rfl, T.x_NameTaken, T.n_NameTaken, upd_same, fun dx25 hdx25 ne25 => ⟨rfl, ?_⟩⟩⟩
    obtain ⟨sm25, mx25⟩ := made_x (C := T.C_NameTaken) (f := "name") (v := v) na25 hdx25 ne25
    refine ⟨(by show 4 ≤ sizeLine; decide), fun l7 hl7 => ?_⟩
    have sl7 := same_new (o := .lst [.ref a22, .ref a23, .ref a24, .ref a25]) hl7
    have sr7 := sm22.trans (sm23.trans (sm24.trans (sm25.trans (sl7))))
    have xr7 : AllX v _ [a22, a23, a24, a25] [(T.C_UnknownPart, some ("name" : Str)), (T.C_UnknownMode, some ("name" : Str)), (T.C_UnknownEntry, some ("name" : Str)), (T.C_NameTaken, some ("name" : Str))] := .fld (mx22.mono (sm23.trans (sm24.trans (sm25.trans (sl7))))) (.fld (mx23.mono (sm24.trans (sm25.trans (sl7)))) (.fld (mx24.mono (sm25.trans (sl7))) (.fld (mx25.mono (sl7)) (.nil))))
    refine ⟨f7, l7, _, _, rfl, rfl, sr7 _ _ w7, upd_same, (by show 26 ≤ sizeLine; decide), fun f8 h8 => ?_⟩
    obtain ⟨G8, eG8, sb7, v8⟩ := upd_known (o := .lst ([.ref a0, .ref a1, .ref a2, .ref a3, .ref a4, .ref a5, .ref a6, .ref a7, .ref a8, .ref a9, .ref a10, .ref a11, .ref a12, .ref a13, .ref a14, .ref a15, .ref a16, .ref a17, .ref a18, .ref a19, .ref a20, .ref a21] ++ [.ref a22, .ref a23, .ref a24, .ref a25])) h8
    rw [← eG8]
    have s8 := s7.trans (sr7.trans sb7)
    have x8 := ((x7.mono sr7).app xr7).mono sb7
    have w8 : G8 f8 = some (HO.lst [.ref a0, .ref a1, .ref a2, .ref a3, .ref a4, .ref a5, .ref a6, .ref a7, .ref a8, .ref a9, .ref a10, .ref a11, .ref a12, .ref a13, .ref a14, .ref a15, .ref a16, .ref a17, .ref a18, .ref a19, .ref a20, .ref a21, .ref a22, .ref a23, .ref a24, .ref a25]) := v8
    refine ⟨_, rfl, ?_⟩
    refine ⟨_, rfl, (by show 1 ≤ 1000; decide), fun a26 na26 => ⟨a26, v, rfl, T.x_Overlap, T.n_Overlap, upd_same, fun dx26 hdx26 ne26 => ⟨rfl, ?_⟩⟩⟩
    obtain ⟨sm26, mx26⟩ := made_x (C := T.C_Overlap) (f := "name") (v := v) na26 hdx26 ne26
    refine ⟨_, rfl, (by show 1 ≤ 1000; decide), fun a27 na27 => ⟨a27, v, rfl, T.x_NotInside, T.n_NotInside, upd_same, fun dx27 hdx27 ne27 => ⟨rfl, ?_⟩⟩⟩
    obtain ⟨sm27, mx27⟩ := made_x (C := T.C_NotInside) (f := "at") (v := v) na27 hdx27 ne27
    refine ⟨_, rfl, (by show 1 ≤ 1000; decide), fun a28 na28 => ⟨a28, v, rfl, T.x_NotNeighbours, T.n_NotNeighbours, upd_same, fun dx28 hdx28 ne28 => ⟨rfl, ?_⟩⟩⟩
    obtain ⟨sm28, mx28⟩ := made_x (C := T.C_NotNeighbours) (f := "name") (v := v) na28 hdx28 ne28
    refine ⟨_, rfl, (by show 1 ≤ 1000; decide), fun a29 na29 => ⟨a29, v, rfl, T.x_NoProgram, T.n_NoProgram, upd_same, fun dx29 hdx29 ne29 => ⟨rfl, ?_⟩⟩⟩
    obtain ⟨sm29, mx29⟩ := made_x (C := T.C_NoProgram) (f := "kind") (v := v) na29 hdx29 ne29
    refine ⟨(by show 4 ≤ sizeLine; decide), fun l8 hl8 => ?_⟩
    have sl8 := same_new (o := .lst [.ref a26, .ref a27, .ref a28, .ref a29]) hl8
    have sr8 := sm26.trans (sm27.trans (sm28.trans (sm29.trans (sl8))))
    have xr8 : AllX v _ [a26, a27, a28, a29] [(T.C_Overlap, some ("name" : Str)), (T.C_NotInside, some ("at" : Str)), (T.C_NotNeighbours, some ("name" : Str)), (T.C_NoProgram, some ("kind" : Str))] := .fld (mx26.mono (sm27.trans (sm28.trans (sm29.trans (sl8))))) (.fld (mx27.mono (sm28.trans (sm29.trans (sl8)))) (.fld (mx28.mono (sm29.trans (sl8))) (.fld (mx29.mono (sl8)) (.nil))))
    refine ⟨f8, l8, _, _, rfl, rfl, sr8 _ _ w8, upd_same, (by show 30 ≤ sizeLine; decide), fun f9 h9 => ?_⟩
    obtain ⟨G9, eG9, sb8, v9⟩ := upd_known (o := .lst ([.ref a0, .ref a1, .ref a2, .ref a3, .ref a4, .ref a5, .ref a6, .ref a7, .ref a8, .ref a9, .ref a10, .ref a11, .ref a12, .ref a13, .ref a14, .ref a15, .ref a16, .ref a17, .ref a18, .ref a19, .ref a20, .ref a21, .ref a22, .ref a23, .ref a24, .ref a25] ++ [.ref a26, .ref a27, .ref a28, .ref a29])) h9
    rw [← eG9]
    have s9 := s8.trans (sr8.trans sb8)
    have x9 := ((x8.mono sr8).app xr8).mono sb8
    have w9 : G9 f9 = some (HO.lst [.ref a0, .ref a1, .ref a2, .ref a3, .ref a4, .ref a5, .ref a6, .ref a7, .ref a8, .ref a9, .ref a10, .ref a11, .ref a12, .ref a13, .ref a14, .ref a15, .ref a16, .ref a17, .ref a18, .ref a19, .ref a20, .ref a21, .ref a22, .ref a23, .ref a24, .ref a25, .ref a26, .ref a27, .ref a28, .ref a29]) := v9
    refine ⟨_, rfl, ?_⟩
    refine ⟨_, rfl, (by show 1 ≤ 1000; decide), fun a30 na30 => ⟨a30, v, rfl, T.x_TooMany, T.n_TooMany, upd_same, fun dx30 hdx30 ne30 => ⟨rfl, ?_⟩⟩⟩
    obtain ⟨sm30, mx30⟩ := made_x (C := T.C_TooMany) (f := "bound") (v := v) na30 hdx30 ne30
    refine ⟨_, rfl, (by show 1 ≤ 1000; decide), fun a31 na31 => ⟨a31, v, rfl, T.x_Ended, T.n_Ended, upd_same, fun dx31 hdx31 ne31 => ⟨rfl, ?_⟩⟩⟩
    obtain ⟨sm31, mx31⟩ := made_x (C := T.C_Ended) (f := "number") (v := v) na31 hdx31 ne31
    refine ⟨_, rfl, (by show 1 ≤ 1000; decide), fun a32 na32 => ⟨a32, v, rfl, T.x_Waiting, T.n_Waiting, upd_same, fun dx32 hdx32 ne32 => ⟨rfl, ?_⟩⟩⟩
    obtain ⟨sm32, mx32⟩ := made_x (C := T.C_Waiting) (f := "number") (v := v) na32 hdx32 ne32
    refine fun a33 na33 => ?_
    have sm33 := same_new (o := ExO (.ref T.C_NothingBad) a33) na33
    refine fun a34 na34 => ?_
    have sm34 := same_new (o := ExO (.ref T.C_NotRight) a34) na34
    refine ⟨(by show 5 ≤ sizeLine; decide), fun l9 hl9 => ?_⟩
    have sl9 := same_new (o := .lst [.ref a30, .ref a31, .ref a32, .ref a33, .ref a34]) hl9
    have sr9 := sm30.trans (sm31.trans (sm32.trans (sm33.trans (sm34.trans (sl9)))))
    have xr9 : AllX v _ [a30, a31, a32, a33, a34] [(T.C_TooMany, some ("bound" : Str)), (T.C_Ended, some ("number" : Str)), (T.C_Waiting, some ("number" : Str)), (T.C_NothingBad, none), (T.C_NotRight, none)] := .fld (mx30.mono (sm31.trans (sm32.trans (sm33.trans (sm34.trans (sl9)))))) (.fld (mx31.mono (sm32.trans (sm33.trans (sm34.trans (sl9))))) (.fld (mx32.mono (sm33.trans (sm34.trans (sl9)))) (.bare ((sm34.trans (sl9)) _ _ upd_same) (.bare ((sl9) _ _ upd_same) (.nil)))))
    refine ⟨f9, l9, _, _, rfl, rfl, sr9 _ _ w9, upd_same, (by show 35 ≤ sizeLine; decide), fun f10 h10 => ?_⟩
    obtain ⟨G10, eG10, sb9, v10⟩ := upd_known (o := .lst ([.ref a0, .ref a1, .ref a2, .ref a3, .ref a4, .ref a5, .ref a6, .ref a7, .ref a8, .ref a9, .ref a10, .ref a11, .ref a12, .ref a13, .ref a14, .ref a15, .ref a16, .ref a17, .ref a18, .ref a19, .ref a20, .ref a21, .ref a22, .ref a23, .ref a24, .ref a25, .ref a26, .ref a27, .ref a28, .ref a29] ++ [.ref a30, .ref a31, .ref a32, .ref a33, .ref a34])) h10
    rw [← eG10]
    have s10 := s9.trans (sr9.trans sb9)
    have x10 := ((x9.mono sr9).app xr9).mono sb9
    have w10 : G10 f10 = some (HO.lst [.ref a0, .ref a1, .ref a2, .ref a3, .ref a4, .ref a5, .ref a6, .ref a7, .ref a8, .ref a9, .ref a10, .ref a11, .ref a12, .ref a13, .ref a14, .ref a15, .ref a16, .ref a17, .ref a18, .ref a19, .ref a20, .ref a21, .ref a22, .ref a23, .ref a24, .ref a25, .ref a26, .ref a27, .ref a28, .ref a29, .ref a30, .ref a31, .ref a32, .ref a33, .ref a34]) := v10
    refine ⟨_, rfl, ?_⟩
    refine fun a35 na35 => ?_
    have sm35 := same_new (o := ExO (.ref T.C_NoStore) a35) na35
    refine fun a36 na36 => ?_
    have sm36 := same_new (o := ExO (.ref T.C_NothingToUndo) a36) na36
    refine fun a37 na37 => ?_
    have sm37 := same_new (o := ExO (.ref T.C_NothingToRedo) a37) na37
    refine ⟨(by show 3 ≤ sizeLine; decide), fun l10 hl10 => ?_⟩
    have sl10 := same_new (o := .lst [.ref a35, .ref a36, .ref a37]) hl10
    have sr10 := sm35.trans (sm36.trans (sm37.trans (sl10)))
    have xr10 : AllX v _ [a35, a36, a37] [(T.C_NoStore, none), (T.C_NothingToUndo, none), (T.C_NothingToRedo, none)] := .bare ((sm36.trans (sm37.trans (sl10))) _ _ upd_same) (.bare ((sm37.trans (sl10)) _ _ upd_same) (.bare ((sl10) _ _ upd_same) (.nil)))
    refine ⟨f10, l10, _, _, rfl, rfl, sr10 _ _ w10, upd_same, (by show 38 ≤ sizeLine; decide), fun f11 h11 => ?_⟩
    obtain ⟨G11, eG11, sb10, v11⟩ := upd_known (o := .lst ([.ref a0, .ref a1, .ref a2, .ref a3, .ref a4, .ref a5, .ref a6, .ref a7, .ref a8, .ref a9, .ref a10, .ref a11, .ref a12, .ref a13, .ref a14, .ref a15, .ref a16, .ref a17, .ref a18, .ref a19, .ref a20, .ref a21, .ref a22, .ref a23, .ref a24, .ref a25, .ref a26, .ref a27, .ref a28, .ref a29, .ref a30, .ref a31, .ref a32, .ref a33, .ref a34] ++ [.ref a35, .ref a36, .ref a37])) h11
    rw [← eG11]
    have s11 := s10.trans (sr10.trans sb10)
    have x11 := ((x10.mono sr10).app xr10).mono sb10
    have w11 : G11 f11 = some (HO.lst [.ref a0, .ref a1, .ref a2, .ref a3, .ref a4, .ref a5, .ref a6, .ref a7, .ref a8, .ref a9, .ref a10, .ref a11, .ref a12, .ref a13, .ref a14, .ref a15, .ref a16, .ref a17, .ref a18, .ref a19, .ref a20, .ref a21, .ref a22, .ref a23, .ref a24, .ref a25, .ref a26, .ref a27, .ref a28, .ref a29, .ref a30, .ref a31, .ref a32, .ref a33, .ref a34, .ref a35, .ref a36, .ref a37]) := v11
    exact ⟨_, rfl, k f11 [a0, a1, a2, a3, a4, a5, a6, a7, a8, a9, a10, a11, a12, a13, a14, a15, a16, a17, a18, a19, a20, a21, a22, a23, a24, a25, a26, a27, a28, a29, a30, a31, a32, a33, a34, a35, a36, a37] _ s11 x11 w11⟩
theorem ok_law_fields (T : Txt K mg) : FnOk P w K mg base CX0 1 T.f_law_fields T.fd_law_fields ["_law_made_here"] (sp_fields (Ps T)) := by
  refine T.F_law_fields.ok sc_law_fields (fun vs H Q E h => ?_) (fun cdv A outer s H vs Q E hr h => ?_)
  · obtain ⟨p, as, v, rfl, _⟩ := h
    rfl
  · obtain ⟨p, as, v, rfl, x0, lp, k⟩ := h
    refine ⟨_, (pss_cons (ps_set (i := 1) sc_law_fields.nd rfl (Or.inl rfl) (pe_lst pa_nil))
        (pss_cons (ps_set (i := 1) sc_law_fields.nd rfl (Or.inl rfl) (pe_op op_cat (pv 1) (pe_lst (pa_cons (pe_xo (pe_ix ix_list (pv 0) pe_int (fun _ _ => rfl))) (pa_cons (pe_xo (pe_ix ix_list (pv 0) pe_int (fun _ _ => rfl))) (pa_cons (pe_xo (pe_ix ix_list (pv 0) pe_int (fun _ _ => rfl))) (pa_cons (pe_xo (pe_ix ix_list (pv 0) pe_int (fun _ _ => rfl))) (pa_cons (pe_xo (pe_ix ix_list (pv 0) pe_int (fun _ _ => rfl))) pa_nil))))))))
        (pss_cons (ps_set (i := 1) sc_law_fields.nd rfl (Or.inl rfl) (pe_op op_cat (pv 1) (pe_lst (pa_cons (pe_xo (pe_ix ix_list (pv 0) pe_int (fun _ _ => rfl))) (pa_cons (pe_xo (pe_ix ix_list (pv 0) pe_int (fun _ _ => rfl))) (pa_cons (pe_xo (pe_ix ix_list (pv 0) pe_int (fun _ _ => rfl))) (pa_cons (pe_xo (pe_ix ix_list (pv 0) pe_int (fun _ _ => rfl))) (pa_cons (pe_xo (pe_ix ix_list (pv 0) pe_int (fun _ _ => rfl))) pa_nil))))))))
        (pss_cons (ps_set (i := 1) sc_law_fields.nd rfl (Or.inl rfl) (pe_op op_cat (pv 1) (pe_lst (pa_cons (pe_xo (pe_ix ix_list (pv 0) pe_int (fun _ _ => rfl))) (pa_cons (pe_xo (pe_ix ix_list (pv 0) pe_int (fun _ _ => rfl))) (pa_cons (pe_xo (pe_ix ix_list (pv 0) pe_int (fun _ _ => rfl))) (pa_cons (pe_xo (pe_ix ix_list (pv 0) pe_int (fun _ _ => rfl))) (pa_cons (pe_xo (pe_ix ix_list (pv 0) pe_int (fun _ _ => rfl))) pa_nil))))))))
        (pss_cons (ps_set (i := 1) sc_law_fields.nd rfl (Or.inl rfl) (pe_op op_cat (pv 1) (pe_lst (pa_cons (pe_xo (pe_ix ix_list (pv 0) pe_int (fun _ _ => rfl))) (pa_cons (pe_xo (pe_ix ix_list (pv 0) pe_int (fun _ _ => rfl))) (pa_cons (pe_xo (pe_ix ix_list (pv 0) pe_int (fun _ _ => rfl))) (pa_cons (pe_xo (pe_ix ix_list (pv 0) pe_int (fun _ _ => rfl))) (pa_cons (pe_xo (pe_ix ix_list (pv 0) pe_int (fun _ _ => rfl))) pa_nil))))))))
        (pss_cons (ps_set (i := 1) sc_law_fields.nd rfl (Or.inl rfl) (pe_op op_cat (pv 1) (pe_lst (pa_cons (pe_xo (pe_ix ix_list (pv 0) pe_int (fun _ _ => rfl))) pa_nil))))
        (pss_cons (ps_set (i := 1) sc_law_fields.nd rfl (Or.inl rfl) (pe_op op_cat (pv 1) (pe_lst (pa_cons (pe_xo (pe_ix ix_list (pv 0) pe_int (fun _ _ => rfl))) (pa_cons (pe_xo (pe_ix ix_list (pv 0) pe_int (fun _ _ => rfl))) (pa_cons (pe_xo (pe_ix ix_list (pv 0) pe_int (fun _ _ => rfl))) (pa_cons (pe_xo (pe_ix ix_list (pv 0) pe_int (fun _ _ => rfl))) (pa_cons (pe_xo (pe_ix ix_list (pv 0) pe_int (fun _ _ => rfl))) pa_nil))))))))
        (pss_cons (ps_set (i := 1) sc_law_fields.nd rfl (Or.inl rfl) (pe_op op_cat (pv 1) (pe_lst (pa_cons (pe_xo (pe_ix ix_list (pv 0) pe_int (fun _ _ => rfl))) (pa_cons (pe_xo (pe_ix ix_list (pv 0) pe_int (fun _ _ => rfl))) (pa_cons (pe_xo (pe_ix ix_list (pv 0) pe_int (fun _ _ => rfl))) (pa_cons (pe_xo (pe_ix ix_list (pv 0) pe_int (fun _ _ => rfl))) (pa_cons (pe_xo (pe_ix ix_list (pv 0) pe_int (fun _ _ => rfl))) pa_nil))))))))
        (pss_cons (ps_set (i := 1) sc_law_fields.nd rfl (Or.inl rfl) (pe_op op_cat (pv 1) (pe_lst (pa_cons (pe_xo (pe_ix ix_list (pv 0) pe_int (fun _ _ => rfl))) (pa_cons (pe_xo (pe_ix ix_list (pv 0) pe_int (fun _ _ => rfl))) pa_nil)))))
        (pss_one (ps_ret (pv 1)))))))))))), ?_⟩
    have len : as.length = 38 := x0.len
    have get : ∀ (i : Nat) (C : Addr) (f : Str), (Ps T)[i]? = some (C, some f) → ∃ a, as[i]? = some a ∧ MadeX H a C f v := fun i C f e => by
      have hi : i < as.length := by
        rw [len]
        exact (List.getElem?_eq_some_iff.mp e).1
      obtain ⟨c, ec, _, h⟩ := x0.get (List.getElem?_eq_getElem hi)
      rw [e] at ec
      cases ec
      exact ⟨_, List.getElem?_eq_getElem hi, h f rfl⟩
    have ats : ∀ (i : Nat) (a : Addr), as[i]? = some a → (as.map V.ref)[i]? = some (.ref a) := fun i a e => by
      rw [List.getElem?_map, e]
      rfl
    refine ⟨Nat.zero_le _, fun f0 h0 => ?_⟩
    have s0 := same_new (o := .lst []) h0
    have w0 : (upd H f0 (.lst [])) f0 = some (.lst ([] : List V)) := upd_same
    obtain ⟨a0, ga0, d0, m0, n0⟩ := get 0 T.C_InvalidName "value" rfl
    obtain ⟨a1, ga1, d1, m1, n1⟩ := get 1 T.C_InvalidKey "value" rfl
    obtain ⟨a2, ga2, d2, m2, n2⟩ := get 2 T.C_InvalidSpan "value" rfl
    obtain ⟨a3, ga3, d3, m3, n3⟩ := get 3 T.C_InvalidSpans "value" rfl
    obtain ⟨a4, ga4, d4, m4, n4⟩ := get 4 T.C_InvalidCatalog "value" rfl
    obtain ⟨a5, ga5, d5, m5, n5⟩ := get 5 T.C_InvalidChange "value" rfl
    obtain ⟨a6, ga6, d6, m6, n6⟩ := get 6 T.C_InvalidModes "value" rfl
    obtain ⟨a7, ga7, d7, m7, n7⟩ := get 7 T.C_InvalidClash "value" rfl
    obtain ⟨a8, ga8, d8, m8, n8⟩ := get 8 T.C_InvalidStrengths "value" rfl
    obtain ⟨a9, ga9, d9, m9, n9⟩ := get 9 T.C_InvalidProgram "value" rfl
    obtain ⟨a10, ga10, d10, m10, n10⟩ := get 10 T.C_InvalidPrograms "value" rfl
    obtain ⟨a11, ga11, d11, m11, n11⟩ := get 11 T.C_InvalidProtocol "value" rfl
    obtain ⟨a12, ga12, d12, m12, n12⟩ := get 12 T.C_InvalidRows "value" rfl
    obtain ⟨a13, ga13, d13, m13, n13⟩ := get 13 T.C_InvalidSession "value" rfl
    obtain ⟨a14, ga14, d14, m14, n14⟩ := get 14 T.C_InvalidNumber "value" rfl
    obtain ⟨a15, ga15, d15, m15, n15⟩ := get 15 T.C_InvalidWeaving "value" rfl
    obtain ⟨a16, ga16, d16, m16, n16⟩ := get 16 T.C_InvalidStore "value" rfl
    obtain ⟨a17, ga17, d17, m17, n17⟩ := get 17 T.C_InvalidScene "value" rfl
    obtain ⟨a18, ga18, d18, m18, n18⟩ := get 18 T.C_InvalidLog "value" rfl
    obtain ⟨a19, ga19, d19, m19, n19⟩ := get 19 T.C_InvalidText "value" rfl
    obtain ⟨a20, ga20, d20, m20, n20⟩ := get 20 T.C_InvalidCommand "value" rfl
    obtain ⟨a21, ga21, d21, m21, n21⟩ := get 21 T.C_Duplicate "name" rfl
    obtain ⟨a22, ga22, d22, m22, n22⟩ := get 22 T.C_UnknownPart "name" rfl
    obtain ⟨a23, ga23, d23, m23, n23⟩ := get 23 T.C_UnknownMode "name" rfl
    obtain ⟨a24, ga24, d24, m24, n24⟩ := get 24 T.C_UnknownEntry "name" rfl
    obtain ⟨a25, ga25, d25, m25, n25⟩ := get 25 T.C_NameTaken "name" rfl
    obtain ⟨a26, ga26, d26, m26, n26⟩ := get 26 T.C_Overlap "name" rfl
    obtain ⟨a27, ga27, d27, m27, n27⟩ := get 27 T.C_NotInside "at" rfl
    obtain ⟨a28, ga28, d28, m28, n28⟩ := get 28 T.C_NotNeighbours "name" rfl
    obtain ⟨a29, ga29, d29, m29, n29⟩ := get 29 T.C_NoProgram "kind" rfl
    obtain ⟨a30, ga30, d30, m30, n30⟩ := get 30 T.C_TooMany "bound" rfl
    obtain ⟨a31, ga31, d31, m31, n31⟩ := get 31 T.C_Ended "number" rfl
    obtain ⟨a32, ga32, d32, m32, n32⟩ := get 32 T.C_Waiting "number" rfl
    refine ⟨_, rfl, ?_⟩
    refine ⟨_, rfl, p, _, 0, .ref a0, rfl, rfl, SqL.of (s0 _ _ lp), atI_nat (j := 0) (ats _ _ ga0), a0, T.C_InvalidName, d0, _, v, rfl, T.y_InvalidName, T.n_InvalidName, s0 _ _ m0, s0 _ _ n0, (by simp [List.lookup]), ?_⟩
    refine ⟨_, rfl, p, _, 1, .ref a1, rfl, rfl, SqL.of (s0 _ _ lp), atI_nat (j := 1) (ats _ _ ga1), a1, T.C_InvalidKey, d1, _, v, rfl, T.y_InvalidKey, T.n_InvalidKey, s0 _ _ m1, s0 _ _ n1, (by simp [List.lookup]), ?_⟩
    refine ⟨_, rfl, p, _, 2, .ref a2, rfl, rfl, SqL.of (s0 _ _ lp), atI_nat (j := 2) (ats _ _ ga2), a2, T.C_InvalidSpan, d2, _, v, rfl, T.y_InvalidSpan, T.n_InvalidSpan, s0 _ _ m2, s0 _ _ n2, (by simp [List.lookup]), ?_⟩
    refine ⟨_, rfl, p, _, 3, .ref a3, rfl, rfl, SqL.of (s0 _ _ lp), atI_nat (j := 3) (ats _ _ ga3), a3, T.C_InvalidSpans, d3, _, v, rfl, T.y_InvalidSpans, T.n_InvalidSpans, s0 _ _ m3, s0 _ _ n3, (by simp [List.lookup]), ?_⟩
    refine ⟨_, rfl, p, _, 4, .ref a4, rfl, rfl, SqL.of (s0 _ _ lp), atI_nat (j := 4) (ats _ _ ga4), a4, T.C_InvalidCatalog, d4, _, v, rfl, T.y_InvalidCatalog, T.n_InvalidCatalog, s0 _ _ m4, s0 _ _ n4, (by simp [List.lookup]), ?_⟩
    refine ⟨(by show 5 ≤ sizeLine; decide), fun l0 hl0 => ?_⟩
    have sl0 := same_new (o := .lst [v, v, v, v, v]) hl0
    refine ⟨f0, l0, _, _, rfl, rfl, sl0 _ _ w0, upd_same, (by show 5 ≤ sizeLine; decide), fun f1 h1 => ?_⟩
    obtain ⟨G1, eG1, sb0, v1⟩ := upd_known (o := .lst ([] ++ [v, v, v, v, v])) h1
    rw [← eG1]
    have s1 := s0.trans (sl0.trans sb0)
    have w1 : G1 f1 = some (HO.lst [v, v, v, v, v]) := v1
    refine ⟨_, rfl, ?_⟩
    refine ⟨_, rfl, p, _, 5, .ref a5, rfl, rfl, SqL.of (s1 _ _ lp), atI_nat (j := 5) (ats _ _ ga5), a5, T.C_InvalidChange, d5, _, v, rfl, T.y_InvalidChange, T.n_InvalidChange, s1 _ _ m5, s1 _ _ n5, (by simp [List.lookup]), ?_⟩
    refine ⟨_, rfl, p, _, 6, .ref a6, rfl, rfl, SqL.of (s1 _ _ lp), atI_nat (j := 6) (ats _ _ ga6), a6, T.C_InvalidModes, d6, _, v, rfl, T.y_InvalidModes, T.n_InvalidModes, s1 _ _ m6, s1 _ _ n6, (by simp [List.lookup]), ?_⟩
    refine ⟨_, rfl, p, _, 7, .ref a7, rfl, rfl, SqL.of (s1 _ _ lp), atI_nat (j := 7) (ats _ _ ga7), a7, T.C_InvalidClash, d7, _, v, rfl, T.y_InvalidClash, T.n_InvalidClash, s1 _ _ m7, s1 _ _ n7, (by simp [List.lookup]), ?_⟩
    refine ⟨_, rfl, p, _, 8, .ref a8, rfl, rfl, SqL.of (s1 _ _ lp), atI_nat (j := 8) (ats _ _ ga8), a8, T.C_InvalidStrengths, d8, _, v, rfl, T.y_InvalidStrengths, T.n_InvalidStrengths, s1 _ _ m8, s1 _ _ n8, (by simp [List.lookup]), ?_⟩
    refine ⟨_, rfl, p, _, 9, .ref a9, rfl, rfl, SqL.of (s1 _ _ lp), atI_nat (j := 9) (ats _ _ ga9), a9, T.C_InvalidProgram, d9, _, v, rfl, T.y_InvalidProgram, T.n_InvalidProgram, s1 _ _ m9, s1 _ _ n9, (by simp [List.lookup]), ?_⟩
    refine ⟨(by show 5 ≤ sizeLine; decide), fun l1 hl1 => ?_⟩
    have sl1 := same_new (o := .lst [v, v, v, v, v]) hl1
    refine ⟨f1, l1, _, _, rfl, rfl, sl1 _ _ w1, upd_same, (by show 10 ≤ sizeLine; decide), fun f2 h2 => ?_⟩
    obtain ⟨G2, eG2, sb1, v2⟩ := upd_known (o := .lst ([v, v, v, v, v] ++ [v, v, v, v, v])) h2
    rw [← eG2]
    have s2 := s1.trans (sl1.trans sb1)
    have w2 : G2 f2 = some (HO.lst [v, v, v, v, v, v, v, v, v, v]) := v2
    refine ⟨_, rfl, ?_⟩
    refine ⟨_, rfl, p, _, 10, .ref a10, rfl, rfl, SqL.of (s2 _ _ lp), atI_nat (j := 10) (ats _ _ ga10), a10, T.C_InvalidPrograms, d10, _, v, rfl, T.y_InvalidPrograms, T.n_InvalidPrograms, s2 _ _ m10, s2 _ _ n10, (by simp [List.lookup]), ?_⟩
    refine ⟨_, rfl, p, _, 11, .ref a11, rfl, rfl, SqL.of (s2 _ _ lp), atI_nat (j := 11) (ats _ _ ga11), a11, T.C_InvalidProtocol, d11, _, v, rfl, T.y_InvalidProtocol, T.n_InvalidProtocol, s2 _ _ m11, s2 _ _ n11, (by simp [List.lookup]), ?_⟩
    refine ⟨_, rfl, p, _, 12, .ref a12, rfl, rfl, SqL.of (s2 _ _ lp), atI_nat (j := 12) (ats _ _ ga12), a12, T.C_InvalidRows, d12, _, v, rfl, T.y_InvalidRows, T.n_InvalidRows, s2 _ _ m12, s2 _ _ n12, (by simp [List.lookup]), ?_⟩
    refine ⟨_, rfl, p, _, 13, .ref a13, rfl, rfl, SqL.of (s2 _ _ lp), atI_nat (j := 13) (ats _ _ ga13), a13, T.C_InvalidSession, d13, _, v, rfl, T.y_InvalidSession, T.n_InvalidSession, s2 _ _ m13, s2 _ _ n13, (by simp [List.lookup]), ?_⟩
    refine ⟨_, rfl, p, _, 14, .ref a14, rfl, rfl, SqL.of (s2 _ _ lp), atI_nat (j := 14) (ats _ _ ga14), a14, T.C_InvalidNumber, d14, _, v, rfl, T.y_InvalidNumber, T.n_InvalidNumber, s2 _ _ m14, s2 _ _ n14, (by simp [List.lookup]), ?_⟩
    refine ⟨(by show 5 ≤ sizeLine; decide), fun l2 hl2 => ?_⟩
    have sl2 := same_new (o := .lst [v, v, v, v, v]) hl2
    refine ⟨f2, l2, _, _, rfl, rfl, sl2 _ _ w2, upd_same, (by show 15 ≤ sizeLine; decide), fun f3 h3 => ?_⟩
    obtain ⟨G3, eG3, sb2, v3⟩ := upd_known (o := .lst ([v, v, v, v, v, v, v, v, v, v] ++ [v, v, v, v, v])) h3
    rw [← eG3]
    have s3 := s2.trans (sl2.trans sb2)
    have w3 : G3 f3 = some (HO.lst [v, v, v, v, v, v, v, v, v, v, v, v, v, v, v]) := v3
    refine ⟨_, rfl, ?_⟩
    refine ⟨_, rfl, p, _, 15, .ref a15, rfl, rfl, SqL.of (s3 _ _ lp), atI_nat (j := 15) (ats _ _ ga15), a15, T.C_InvalidWeaving, d15, _, v, rfl, T.y_InvalidWeaving, T.n_InvalidWeaving, s3 _ _ m15, s3 _ _ n15, (by simp [List.lookup]), ?_⟩
    refine ⟨_, rfl, p, _, 16, .ref a16, rfl, rfl, SqL.of (s3 _ _ lp), atI_nat (j := 16) (ats _ _ ga16), a16, T.C_InvalidStore, d16, _, v, rfl, T.y_InvalidStore, T.n_InvalidStore, s3 _ _ m16, s3 _ _ n16, (by simp [List.lookup]), ?_⟩
    refine ⟨_, rfl, p, _, 17, .ref a17, rfl, rfl, SqL.of (s3 _ _ lp), atI_nat (j := 17) (ats _ _ ga17), a17, T.C_InvalidScene, d17, _, v, rfl, T.y_InvalidScene, T.n_InvalidScene, s3 _ _ m17, s3 _ _ n17, (by simp [List.lookup]), ?_⟩
    refine ⟨_, rfl, p, _, 18, .ref a18, rfl, rfl, SqL.of (s3 _ _ lp), atI_nat (j := 18) (ats _ _ ga18), a18, T.C_InvalidLog, d18, _, v, rfl, T.y_InvalidLog, T.n_InvalidLog, s3 _ _ m18, s3 _ _ n18, (by simp [List.lookup]), ?_⟩
    refine ⟨_, rfl, p, _, 19, .ref a19, rfl, rfl, SqL.of (s3 _ _ lp), atI_nat (j := 19) (ats _ _ ga19), a19, T.C_InvalidText, d19, _, v, rfl, T.y_InvalidText, T.n_InvalidText, s3 _ _ m19, s3 _ _ n19, (by simp [List.lookup]), ?_⟩
    refine ⟨(by show 5 ≤ sizeLine; decide), fun l3 hl3 => ?_⟩
    have sl3 := same_new (o := .lst [v, v, v, v, v]) hl3
    refine ⟨f3, l3, _, _, rfl, rfl, sl3 _ _ w3, upd_same, (by show 20 ≤ sizeLine; decide), fun f4 h4 => ?_⟩
    obtain ⟨G4, eG4, sb3, v4⟩ := upd_known (o := .lst ([v, v, v, v, v, v, v, v, v, v, v, v, v, v, v] ++ [v, v, v, v, v])) h4
    rw [← eG4]
    have s4 := s3.trans (sl3.trans sb3)
    have w4 : G4 f4 = some (HO.lst [v, v, v, v, v, v, v, v, v, v, v, v, v, v, v, v, v, v, v, v]) := v4
    refine ⟨_, rfl, ?_⟩
    refine ⟨_, rfl, p, _, 20, .ref a20, rfl, rfl, SqL.of (s4 _ _ lp), atI_nat (j := 20) (ats _ _ ga20), a20, T.C_InvalidCommand, d20, _, v, rfl, T.y_InvalidCommand, T.n_InvalidCommand, s4 _ _ m20, s4 _ _ n20, (by simp [List.lookup]), ?_⟩
    refine ⟨(by show 1 ≤ sizeLine; decide), fun l4 hl4 => ?_⟩
    have sl4 := same_new (o := .lst [v]) hl4
    refine ⟨f4, l4, _, _, rfl, rfl, sl4 _ _ w4, upd_same, (by show 21 ≤ sizeLine; decide), fun f5 h5 => ?_⟩
    obtain ⟨G5, eG5, sb4, v5⟩ := upd_known (o := .lst ([v, v, v, v, v, v, v, v, v, v, v, v, v, v, v, v, v, v, v, v] ++ [v])) h5
    rw [← eG5]
    have s5 := s4.trans (sl4.trans sb4)
    have w5 : G5 f5 = some (HO.lst [v, v, v, v, v, v, v, v, v, v, v, v, v, v, v, v, v, v, v, v, v]) := v5
    refine ⟨_, rfl, ?_⟩
    refine ⟨_, rfl, p, _, 21, .ref a21, rfl, rfl, SqL.of (s5 _ _ lp), atI_nat (j := 21) (ats _ _ ga21), a21, T.C_Duplicate, d21, _, v, rfl, T.y_Duplicate, T.n_Duplicate, s5 _ _ m21, s5 _ _ n21, (by simp [List.lookup]), ?_⟩
    refine ⟨_, rfl, p, _, 22, .ref a22, rfl, rfl, SqL.of (s5 _ _ lp), atI_nat (j := 22) (ats _ _ ga22), a22, T.C_UnknownPart, d22, _, v, rfl, T.y_UnknownPart, T.n_UnknownPart, s5 _ _ m22, s5 _ _ n22, (by simp [List.lookup]), ?_⟩
    refine ⟨_, rfl, p, _, 23, .ref a23, rfl, rfl, SqL.of (s5 _ _ lp), atI_nat (j := 23) (ats _ _ ga23), a23, T.C_UnknownMode, d23, _, v, rfl, T.y_UnknownMode, T.n_UnknownMode, s5 _ _ m23, s5 _ _ n23, (by simp [List.lookup]), ?_⟩
    refine ⟨_, rfl, p, _, 24, .ref a24, rfl, rfl, SqL.of (s5 _ _ lp), atI_nat (j := 24) (ats _ _ ga24), a24, T.C_UnknownEntry, d24, _, v, rfl, T.y_UnknownEntry, T.n_UnknownEntry, s5 _ _ m24, s5 _ _ n24, (by simp [List.lookup]), ?_⟩
    refine ⟨_, rfl, p, _, 25, .ref a25, rfl, rfl, SqL.of (s5 _ _ lp), atI_nat (j := 25) (ats _ _ ga25), a25, T.C_NameTaken, d25, _, v, rfl, T.y_NameTaken, T.n_NameTaken, s5 _ _ m25, s5 _ _ n25, (by simp [List.lookup]), ?_⟩
    refine ⟨(by show 5 ≤ sizeLine; decide), fun l5 hl5 => ?_⟩
    have sl5 := same_new (o := .lst [v, v, v, v, v]) hl5
    refine ⟨f5, l5, _, _, rfl, rfl, sl5 _ _ w5, upd_same, (by show 26 ≤ sizeLine; decide), fun f6 h6 => ?_⟩
    obtain ⟨G6, eG6, sb5, v6⟩ := upd_known (o := .lst ([v, v, v, v, v, v, v, v, v, v, v, v, v, v, v, v, v, v, v, v, v] ++ [v, v, v, v, v])) h6
    rw [← eG6]
    have s6 := s5.trans (sl5.trans sb5)
    have w6 : G6 f6 = some (HO.lst [v, v, v, v, v, v, v, v, v, v, v, v, v, v, v, v, v, v, v, v, v, v, v, v, v, v]) := v6
    refine ⟨_, rfl, ?_⟩
    refine ⟨_, rfl, p, _, 26, .ref a26, rfl, rfl, SqL.of (s6 _ _ lp), atI_nat (j := 26) (ats _ _ ga26), a26, T.C_Overlap, d26, _, v, rfl, T.y_Overlap, T.n_Overlap, s6 _ _ m26, s6 _ _ n26, (by simp [List.lookup]), ?_⟩
    refine ⟨_, rfl, p, _, 27, .ref a27, rfl, rfl, SqL.of (s6 _ _ lp), atI_nat (j := 27) (ats _ _ ga27), a27, T.C_NotInside, d27, _, v, rfl, T.y_NotInside, T.n_NotInside, s6 _ _ m27, s6 _ _ n27, (by simp [List.lookup]), ?_⟩
    refine ⟨_, rfl, p, _, 28, .ref a28, rfl, rfl, SqL.of (s6 _ _ lp), atI_nat (j := 28) (ats _ _ ga28), a28, T.C_NotNeighbours, d28, _, v, rfl, T.y_NotNeighbours, T.n_NotNeighbours, s6 _ _ m28, s6 _ _ n28, (by simp [List.lookup]), ?_⟩
    refine ⟨_, rfl, p, _, 29, .ref a29, rfl, rfl, SqL.of (s6 _ _ lp), atI_nat (j := 29) (ats _ _ ga29), a29, T.C_NoProgram, d29, _, v, rfl, T.y_NoProgram, T.n_NoProgram, s6 _ _ m29, s6 _ _ n29, (by simp [List.lookup]), ?_⟩
    refine ⟨_, rfl, p, _, 30, .ref a30, rfl, rfl, SqL.of (s6 _ _ lp), atI_nat (j := 30) (ats _ _ ga30), a30, T.C_TooMany, d30, _, v, rfl, T.y_TooMany, T.n_TooMany, s6 _ _ m30, s6 _ _ n30, (by simp [List.lookup]), ?_⟩
    refine ⟨(by show 5 ≤ sizeLine; decide), fun l6 hl6 => ?_⟩
    have sl6 := same_new (o := .lst [v, v, v, v, v]) hl6
    refine ⟨f6, l6, _, _, rfl, rfl, sl6 _ _ w6, upd_same, (by show 31 ≤ sizeLine; decide), fun f7 h7 => ?_⟩
    obtain ⟨G7, eG7, sb6, v7⟩ := upd_known (o := .lst ([v, v, v, v, v, v, v, v, v, v, v, v, v, v, v, v, v, v, v, v, v, v, v, v, v, v] ++ [v, v, v, v, v])) h7
    rw [← eG7]
    have s7 := s6.trans (sl6.trans sb6)
    have w7 : G7 f7 = some (HO.lst [v, v, v, v, v, v, v, v, v, v, v, v, v, v, v, v, v, v, v, v, v, v, v, v, v, v, v, v, v, v, v]) := v7
    refine ⟨_, rfl, ?_⟩
    refine ⟨_, rfl, p, _, 31, .ref a31, rfl, rfl, SqL.of (s7 _ _ lp), atI_nat (j := 31) (ats _ _ ga31), a31, T.C_Ended, d31, _, v, rfl, T.y_Ended, T.n_Ended, s7 _ _ m31, s7 _ _ n31, (by simp [List.lookup]), ?_⟩
    refine ⟨_, rfl, p, _, 32, .ref a32, rfl, rfl, SqL.of (s7 _ _ lp), atI_nat (j := 32) (ats _ _ ga32), a32, T.C_Waiting, d32, _, v, rfl, T.y_Waiting, T.n_Waiting, s7 _ _ m32, s7 _ _ n32, (by simp [List.lookup]), ?_⟩
    refine ⟨(by show 2 ≤ sizeLine; decide), fun l7 hl7 => ?_⟩
    have sl7 := same_new (o := .lst [v, v]) hl7
    refine ⟨f7, l7, _, _, rfl, rfl, sl7 _ _ w7, upd_same, (by show 33 ≤ sizeLine; decide), fun f8 h8 => ?_⟩
    obtain ⟨G8, eG8, sb7, v8⟩ := upd_known (o := .lst ([v, v, v, v, v, v, v, v, v, v, v, v, v, v, v, v, v, v, v, v, v, v, v, v, v, v, v, v, v, v, v] ++ [v, v])) h8
    rw [← eG8]
    have s8 := s7.trans (sl7.trans sb7)
    have w8 : G8 f8 = some (HO.lst [v, v, v, v, v, v, v, v, v, v, v, v, v, v, v, v, v, v, v, v, v, v, v, v, v, v, v, v, v, v, v, v, v]) := v8
    exact ⟨_, rfl, k f8 _ s8 w8⟩
theorem ok_law (T : Txt K mg) : FnOk P w K mg base CX0 4 T.f_law T.fd_law ["_law_script"] (sp_law K) := by
  refine T.F_law.ok sc_law (fun vs H Q E h => ?_) (fun cdv A outer s H vs Q E hr h => ?_)
  · obtain ⟨a, ns, rfl, _⟩ := h
    rfl
  · obtain ⟨a, ns, rfl, hS, hlen, k⟩ := h
    refine ⟨_, (pss_cons (ps_for PassesOwn.never rfl (pi_range1 rfl T.z_range (pa_cons (pe_callB (id := "max") (call_max2 rfl) (by rfl) T.z_max (by decide +kernel) (pa_cons pe_int (pa_cons (pe_callB (id := "min") (call_min2 rfl) (by rfl) T.z_min (by decide +kernel) (pa_cons pe_int (pa_cons (pe_callB (id := "len") call_len_seq (by rfl) T.z_len (by decide +kernel) (pa_cons (pv 0) pa_nil)) pa_nil))) pa_nil))) pa_nil)) (pg_name (i := 1) sc_law.nd rfl (Or.inl rfl))
          (pss_cons (ps_set (i := 2) sc_law.nd rfl (Or.inl rfl) (pe_call (ok_law_box T) (hr.mono (by decide)) rfl T.m_law_box T.F_law_box.kp T.b_law_box .nil pass0 (pa_cons (pe_call (ok_law_cell T) (hr.mono (by decide)) rfl T.m_law_cell T.F_law_cell.kp T.b_law_cell .nil pass0 (pa_cons (pv 0) (pa_cons (pv 1) pa_nil))) pa_nil)))
        (pss_cons (ps_set (i := 3) sc_law.nd rfl (Or.inr rfl) (pe_ix ix_list (pe_lst (pa_cons pe_non (pa_cons pe_int (pa_cons pe_bl (pa_cons pe_str (pa_cons (pe_lst (pa_cons pe_int pa_nil)) (pa_cons (pe_lst (pa_cons pe_str (pa_cons (pe_lst (pa_cons pe_int pa_nil)) pa_nil))) (pa_cons (pe_disp (pps_cons pe_str pe_int pps_nil) (by rfl) (by rfl) (fun z => by cases z) (by decide)) (pa_cons (pe_tup (pa_cons pe_int (pa_cons pe_int pa_nil))) (pa_cons pe_str (pa_cons (pe_op op_pow pe_int pe_int) pa_nil))))))))))) (pe_call (ok_law_take T) (hr.mono (by decide)) rfl T.m_law_take T.F_law_take.kp T.b_law_take .nil pass0 (pa_cons (pv 2) (pa_cons pe_int pa_nil))) (fun _ _ => rfl)))
        (pss_cons (ps_set (i := 4) sc_law.nd rfl (Or.inr rfl) (pe_call (ok_law_made T) hr rfl T.m_law_made T.F_law_made.kp T.b_law_made .nil pass0 (pa_cons (pv 3) pa_nil)))
        (pss_cons (ps_if (pt_cmpR (op_neD hr.units) (pe_lc (own := [("_law_at", 6)]) (g := gName 6) rfl sc_law.nd (pi_range1 rfl T.z_range (pa_cons (pe_callB (id := "len") call_len_seq (by rfl) T.z_len (by decide +kernel) (pa_cons (pv 4) pa_nil)) pa_nil)) (blkOk_by (own := [("_law_at", 6)]) (N := ["_law_script", "_law_k", "_law_box_here", "_law_thing", "_law_made_here", "_law_told", "_law_at", "_law_item"]) (sc := defScope s_law) (by decide +kernel)) (fun _ _ _ _ _ => (pg_name (i := 6) sc_law.nd rfl (Or.inl rfl))) (fun _ _ _ _ _ => (pts_one (PW.pt (pw_or (pt_cmpR (r := rNeD K) (op_neD hr.units) (pe_call (ok_law_classes T) (hr.mono (by decide)) rfl T.m_law_classes T.F_law_classes.kp T.b_law_classes .nil pass0 (pa_cons (pe_ix (r := rIxL K) ix_list (pv 4) (pv 6) (fun _ _ => rfl)) pa_nil)) (pe_lst (pa_cons (pv 6) pa_nil)) (nomark _)) (pw_or1 (pt_not (pt_val (pe_call (ok_law_under T) (hr.mono (by decide)) rfl T.m_law_under T.F_law_under.kp T.b_law_under .nil pass0 (pa_cons (pe_ix (r := rIxL K) ix_list (pv 4) (pv 6) (fun _ _ => rfl)) pa_nil))))))))) (fun _ _ _ _ _ => (pv 6))) (pe_lst pa_nil) (nomark _)) (pss_one (ps_ret pe_bl)) pss_nil)
        (pss_cons (ps_set (i := 5) sc_law.nd rfl (Or.inl rfl) (pe_call (ok_law_fields T) (hr.mono (by decide)) rfl T.m_law_fields T.F_law_fields.kp T.b_law_fields .nil pass0 (pa_cons (pv 4) pa_nil)))
        (pss_cons (ps_if (pt_cmpR (op_neD hr.units) (pe_lc (own := [("_law_item", 7)]) (g := gName 7) rfl sc_law.nd (pi_list (pv 5)) (blkOk_by (own := [("_law_item", 7)]) (N := ["_law_script", "_law_k", "_law_box_here", "_law_thing", "_law_made_here", "_law_told", "_law_at", "_law_item"]) (sc := defScope s_law) (by decide +kernel)) (fun _ _ _ _ _ => (pg_name (i := 7) sc_law.nd rfl (Or.inl rfl))) (fun _ _ _ _ _ => (pts_one (PW.pt (pw_or (pt_cmpR (r := rNeT K) (op_neT hr.units) (pv 7) (pv 3) (nomark _)) (pw_or1 (pt_cmpR op_ne (pe_callB (id := "isinstance") (r := rIsi K) call_isi (by rfl) T.z_isinstance (by decide +kernel) (pa_cons (pv 7) (pa_cons (pe_bltn (v := .ty "bool") (u := .type "bool") (by rfl) T.z_bool (by decide +kernel) rfl) pa_nil))) (pe_callB (id := "isinstance") (r := rIsi K) call_isi (by rfl) T.z_isinstance (by decide +kernel) (pa_cons (pv 3) (pa_cons (pe_bltn (v := .ty "bool") (u := .type "bool") (by rfl) T.z_bool (by decide +kernel) rfl) pa_nil))) (nomark _))))))) (fun _ _ _ _ _ => (pv 7))) (pe_lst pa_nil) (nomark _)) (pss_one (ps_ret pe_bl)) pss_nil)
        (pss_one (ps_if (PW.pt (pw_or (pt_not (pt_val (pe_callB (id := "isinstance") (r := rIsE K) call_isE (by rfl) T.z_isinstance (by decide +kernel) (pa_cons (pe_exc1 PySem.F.excBase_ValueError T.q_PartsError T.g_PartsError T.kp_PartsError rfl pe_str) (pa_cons (pe_bltn (v := .ty "ValueError") (u := .type "ValueError") (by rfl) T.z_ValueError (by decide +kernel) rfl) pa_nil))))) (pw_or1 (pt_cmpR (op_neD hr.units) (pe_call (ok_law_classes T) (hr.mono (by decide)) rfl T.m_law_classes T.F_law_classes.kp T.b_law_classes .nil pass0 (pa_cons (pe_exc1 PySem.F.excBase_ValueError T.q_PartsError T.g_PartsError T.kp_PartsError rfl pe_str) pa_nil)) (pe_lst pa_nil) (nomark _))))) (pss_one (ps_ret pe_bl)) pss_nil)))))))))
        (pss_one (ps_ret pe_bl))), ?_⟩
    refine ⟨_, rfl, a, _, rfl, .inl hS, _, _, rfl, _, _, rfl, _, rfl, ?_, ?_, for_range (fun i σ H' => ∃ v1 v2 v3 v4 v5 v6 v7, σ = [some (.ref a), v1, v2, v3, v4, v5, v6, v7] ∧ Same H H') ⟨none, none, none, none, none, none, none, rfl, Same.refl H⟩ ?_ ?_⟩
    · repeat' split
      all_goals omega
    · repeat' split
      all_goals omega
    · rintro i σ H1 hi ⟨v1, v2, v3, v4, v5, v6, v7, rfl, s1⟩
      refine ⟨_, rfl, _, rfl, a, ns, _, rfl, s1.seq hS, (by omega), fun z => ⟨z, rfl, fun p o hp bx => ?_⟩⟩
      have B : BoxIn H1 (upd H1 p o) p 0 := ⟨same_new hp, hp, bx⟩
      refine ⟨(by show 1 ≤ sizeLine; decide), fun t1 ht1 => ?_⟩
      have b1 := B.new (o := .lst [.int 1]) ht1
      refine ⟨(by show 1 ≤ sizeLine; decide), fun t2 ht2 => ?_⟩
      have b2 := b1.1.new (o := .lst [.int 2]) ht2
      refine ⟨(by show 2 ≤ sizeLine; decide), fun t3 ht3 => ?_⟩
      have b3 := b2.1.new (o := .lst [.str "a", .ref t2]) ht3
      refine fun t4 ht4 => ⟨upd_same, dA, rfl, (by decide), ?_⟩
      rw [upd_upd, show mergeK [] dA = dA from rfl]
      have b4 := b3.1.new (o := .dK dA) ht4
      refine ⟨(by show 2 ≤ sizeLine; decide), fun t5 ht5 => ?_⟩
      have b5 := b4.1.new (o := .tup [.int 1, .int 2]) ht5
      refine ⟨_, _, rfl, rfl, ⟨by decide, by decide, by decide⟩, (by show 10 ≤ sizeLine; decide), fun l hl => ?_⟩
      have b6 := b5.1.new (o := .lst [.non, .int 5, .bl true, .str "a", .ref t1, .ref t3, .ref t4, .ref t5, .str "", .int (10 ^ (29 : Int).toNat)]) hl
      refine ⟨_, rfl, _, p, _, 10, rfl, b6.1, by decide, by decide, by decide, fun z7 H7 z70 z71 B7 => ?_⟩
      obtain ⟨v, hv, hm⟩ := atI_in (xs := [V.non, .int 5, .bl true, .str "a", .ref t1, .ref t3, .ref t4, .ref t5, .str "", .int (10 ^ (29 : Int).toNat)]) z70 z71
      refine ⟨l, _, z7, v, rfl, rfl, SqL.of (B7.same _ _ upd_same), hv, ?_⟩
      have hth : ∃ G, Same H1 G ∧ BoxIn G H7 p 1 ∧ ThV K G v := by
        have m6 := b6.2
        have m5 := b5.2.trans m6
        have m4 := b4.2.trans m5
        have m3 := b3.2.trans m4
        have m2 := b2.2.trans m3
        refine ⟨_, b1.2.trans m2, B7, ?_⟩
        simp only [List.mem_cons, List.not_mem_nil, or_false] at hm
        rcases hm with rfl | rfl | rfl | rfl | rfl | rfl | rfl | rfl | rfl | rfl
        · exact .dat .non (by decide +kernel)
        · exact .dat (.int 5) (by decide +kernel)
        · exact .dat (.bl true) (by decide +kernel)
        · exact .dat (.str _) (by decide +kernel)
        · exact .dat (.lst (SqL.of (m2 _ _ upd_same)) (.cons (.int 1) .nil)) (by decide +kernel)
        · exact .dat (.lst (SqL.of (m4 _ _ upd_same)) (.cons (.str _) (.cons (.lst (SqL.of (m3 _ _ upd_same)) (.cons (.int 2) .nil)) .nil))) (by decide +kernel)
        · exact .dic (m5 _ _ upd_same)
        · exact .dat (.tup (SqT.of (m6 _ _ upd_same)) (.cons (.int 1) (.cons (.int 2) .nil))) (by decide +kernel)
        · exact .dat (.str _) (by decide +kernel)
        · exact .dat (.int _) (by decide +kernel)
      obtain ⟨G, sG, C, th⟩ := hth
      clear b1 b2 b3 b4 b5 b6 B7 hm hv
      have s7 : Same H H7 := s1.trans (sG.trans C.same)
      have th7 := th.mono C.same
      refine ⟨_, rfl, v, rfl, fun m as H8 s8 x8 lm => ?_⟩
      have hlen38 : (as.map V.ref).length = 38 := by
        rw [List.length_map]
        exact x8.len
      have fil : ∀ i, i < 38 → (List.range 38).filter (fun j => i == j) = [i] := by decide
      have each : ∀ i, i < 38 → ∃ e Ce, as[i]? = some e ∧ (Cs T)[i]? = some Ce ∧ EAt H8 e Ce ∧ KitE K Ce ∧ kitUp K T.C_PartsError Ce = true := fun i hi => by
        have hi' : i < as.length := by
          rw [List.length_map] at hlen38
          omega
        obtain ⟨c, ec, ea, _⟩ := x8.get (List.getElem?_eq_getElem hi')
        have ec' : (Cs T)[i]? = some c.1 := by
          show ((Ps T).map (·.1))[i]? = some c.1
          rw [List.getElem?_map, ec]
          rfl
        have mem := List.mem_of_getElem? ec'
        exact ⟨_, c.1, List.getElem?_eq_getElem hi', ec', ea, kitsE_get T.ke (List.mem_cons_of_mem _ mem), List.all_eq_true.mp T.ups _ (List.mem_cons_of_mem _ mem)⟩
      refine ⟨_, rfl, m, _, rfl, .inl (SqL.of lm), _, rfl, (by rw [hlen38]; decide), (by rw [hlen38]; decide), fun D hD => ?_⟩
      refine lc_acc walk_range hD (fun _ _ => trivial) (fun _ => []) rfl (fun i _ => (by show 0 < sizeLine; decide)) ?_ ?_
      · rintro i y H9 hi0 rfl s9 R S r1 r2
        have hi : i < 38 := by
          rw [hlen38] at hi0
          exact hi0
        obtain ⟨e, Ce, he, hC, ea, KE, up⟩ := each i hi
        have hat : atI (as.map V.ref) (0 + (i : Int)) = some (.ref e) := by
          rw [Int.zero_add]
          exact atI_nat (by rw [List.getElem?_map, he]; rfl)
        refine ⟨rfl, ?_⟩
        refine ⟨_, rfl, _, rfl, m, _, _, .ref e, rfl, rfl, SqL.of (s9 _ _ lm), hat, e, Ce, fun j => i == j, rfl, ea.mono s9, KE, fun j d hj => kitTab_get T.tab hC hj, fun q H10 s10 hq => ?_⟩
        refine ⟨_, rfl, (by show 1 ≤ sizeLine; decide), fun g hg => ?_⟩
        have sg := same_new (o := .lst [.int (0 + (i : Int))]) hg
        have fi : ((List.range 38).filter (fun j => i == j)).map (fun j => V.int ((j : Nat) : Int)) = [V.int (i : Int)] := by
          rw [fil i hi]
          rfl
        have hq' : H10 q = some (.lst [.int (i : Int)]) := by
          rw [← fi]
          exact hq
        have ei : (0 : Int) + (i : Int) = (i : Int) := Int.zero_add _
        have sh1 : SeqAt.shaped (.list [.int (i : Int)]) = true := shaped_list (n := 0) (by decide) fun d hd => by
          cases List.mem_singleton.mp hd
          exact ⟨rfl, by simp [PyData.depth]⟩
        refine ⟨.list [.int i], .list [.int i], .lst (SqL.of (sg _ _ hq')) (.cons (.int _) .nil), .lst (SqL.of upd_same) (by show DpAll K _ [V.int (0 + (i : Int))] _; rw [ei]; exact .cons (.int _) .nil), sh1, sh1, _, rfl, iteFe (by rw [SeqAt.eqv_refl _ (shaped_iff.mp sh1).1]; rfl) ?_⟩
        have st := s9.trans (s10.trans sg)
        exact ⟨_, rfl, _, rfl, m, _, _, .ref e, rfl, rfl, SqL.of (st _ _ lm), hat, e, Ce, rfl, ea.mono st, KE, up, _, rfl, iteF (r2 _ rfl (s10.trans sg))⟩
      intro H9 s9 hlD
      refine ⟨Nat.zero_le _, fun q2 hq2 => ?_⟩
      have sq := same_new (o := .lst []) hq2
      have sA := s9.trans sq
      refine ⟨.list [], .list [], .lst (SqL.of (sq _ _ hlD)) .nil, .lst (SqL.of upd_same) .nil, shaped_nil, shaped_nil, _, rfl, iteFe (by rw [eqv_nil]; rfl) ?_⟩
      refine ⟨_, rfl, m, as, v, rfl, x8.mono sA, sA _ _ lm, fun q3 H11 s11 hq3 => ?_⟩
      refine ⟨_, rfl, q3, rfl, ⟨_, SqL.of hq3⟩, fun D2 hD2 => ?_⟩
      have th11 := th7.mono (s8.trans (sA.trans s11))
      refine lc_acc walk_list hD2 (fun H' k => SqL.of (k _ _ hq3)) (fun _ => []) rfl (fun i _ => (by show 0 < sizeLine; decide)) ?_ ?_
      · rintro j y H12 hj hy s12 R S r1 r2
        have hy' : (List.replicate 33 v)[j]? = some y := hy
        have ey : y = v := List.eq_of_mem_replicate (List.mem_of_getElem? hy')
        subst ey
        have thS := th11.mono s12
        obtain ⟨oo, ty⟩ := thS.ty
        refine ⟨rfl, _, rfl, _, rfl, ne_same thS ⟨_, rfl, iteF ?_⟩⟩
        exact ⟨_, rfl, _, _, _, _, _, rfl, .ty _, ty, kit_o oo (.inr (.inl rfl)), _, rfl, _, _, _, _, _, rfl, .ty _, ty, kit_o oo (.inr (.inl rfl)), rfl, _, rfl, iteFe (by simp) (r2 _ rfl (Same.refl _))⟩
      intro H12 s12 hl2
      refine ⟨Nat.zero_le _, fun q4 hq4 => ?_⟩
      have sq4 := same_new (o := .lst []) hq4
      refine ⟨.list [], .list [], .lst (SqL.of (sq4 _ _ hl2)) .nil, .lst (SqL.of upd_same) .nil, shaped_nil, shaped_nil, _, rfl, iteFe (by rw [eqv_nil]; rfl) ?_⟩
      have KP : KitE K T.C_PartsError := kitsE_get T.ke List.mem_cons_self
      have UP := List.all_eq_true.mp T.ups _ (List.mem_cons_self (a := T.C_PartsError) (l := Cs T))
      have sB := s7.trans (s8.trans (sA.trans (s11.trans (s12.trans sq4))))
      refine fun e1 he1 => ?_
      have se1 := same_new (o := ExO (.ref T.C_PartsError) e1) he1
      refine ⟨e1, T.C_PartsError, _, _, true, rfl, .ty _, .inl upd_same, KP, (kitUps_get T.ups List.mem_cons_self).2.1, _, rfl, iteF ?_⟩
      refine fun e2 he2 => ?_
      have se2 := same_new (o := ExO (.ref T.C_PartsError) e2) he2
      refine ⟨e2, T.C_PartsError, fun _ => false, rfl, .inl upd_same, KP, fun j d hj => kitRow_get T.tabP (List.mem_of_getElem? hj), fun q5 H13 s13 hq5 => ?_⟩
      refine ⟨Nat.zero_le _, fun q6 hq6 => ?_⟩
      have sq6 := same_new (o := .lst []) hq6
      have em : (((List.range 38).filter fun _ => false).map fun j => V.int ((j : Nat) : Int)) = [] := by
        simp
      have hq5' : H13 q5 = some (.lst []) := by
        rw [← em]
        exact hq5
      refine ⟨.list [], .list [], .lst (SqL.of (sq6 _ _ hq5')) .nil, .lst (SqL.of upd_same) .nil, shaped_nil, shaped_nil, _, rfl, iteFe (by rw [eqv_nil]; rfl) ?_⟩
      exact ⟨_, _, _, _, _, _, _, rfl, sB.trans (se1.trans (se2.trans (s13.trans sq6)))⟩
    · rintro σ H1 ⟨v1, v2, v3, v4, v5, v6, v7, rfl, s1⟩
      exact k H1
end
theorem all_mk {l : PySem.W.OpenLaw} {w : World} {K : PySem.W.Frag} {h : Heap} {mg : Str → Option Value} {fa f0 f1 f2 f3 f4 f5 f6 f7 f8 f9 f10 f11 f12 f13 f14 f15 f16 f17 f18 f19 f20 f21 f22 f23 f24 f25 f26 f27 f28 f29 f30 f31 f32 f33 f34 f35 f36 f37 f38 f39 f40 : Addr} {C_PartsError : Addr} {C_InvalidName : Addr} {C_InvalidKey : Addr} {C_InvalidSpan : Addr} {C_InvalidSpans : Addr} {C_InvalidCatalog : Addr} {C_InvalidChange : Addr} {C_InvalidModes : Addr} {C_InvalidClash : Addr} {C_InvalidStrengths : Addr} {C_InvalidProgram : Addr} {C_InvalidPrograms : Addr} {C_InvalidProtocol : Addr} {C_InvalidRows : Addr} {C_InvalidSession : Addr} {C_InvalidNumber : Addr} {C_InvalidWeaving : Addr} {C_InvalidStore : Addr} {C_InvalidScene : Addr} {C_InvalidLog : Addr} {C_InvalidText : Addr} {C_InvalidCommand : Addr} {C_Duplicate : Addr} {C_UnknownPart : Addr} {C_UnknownMode : Addr} {C_UnknownEntry : Addr} {C_NameTaken : Addr} {C_Overlap : Addr} {C_NotInside : Addr} {C_NotNeighbours : Addr} {C_NoProgram : Addr} {C_TooMany : Addr} {C_Ended : Addr} {C_Waiting : Addr} {C_NothingBad : Addr} {C_NotRight : Addr} {C_NoStore : Addr} {C_NothingToUndo : Addr} {C_NothingToRedo : Addr} (X : K.In h) (G : h.Ns mainGlobals mg) (hfa : mg "law" = some (.ref fa))
    {od0 an0 : Option Addr} {sl0 : Array (Option Value)} {oc0 kV0 dc0 pm0 cd0 ct0 : Value}
    (a0 : PySem.W.findIn K (.ref C_InvalidName) "__init__" = some (some (.ref f0))) (l0 : K.lookup f0 = some ⟨oc0, od0, .func (PySem.W.fnOf "__init__" "InvalidName.__init__" (defArgs s_InvalidName_init) (defBody s_InvalidName_init) (defScope s_InvalidName_init) .none kV0 dc0 pm0 an0 cd0 ct0), sl0⟩) (c0 : PySem.W.codeIn K cd0 "InvalidName.__init__" = true) (k0 : PySem.W.keepIn K (.ref f0) = true)
    {od1 an1 : Option Addr} {sl1 : Array (Option Value)} {oc1 kV1 dc1 pm1 cd1 ct1 : Value}
    (a1 : PySem.W.findIn K (.ref C_InvalidKey) "__init__" = some (some (.ref f1))) (l1 : K.lookup f1 = some ⟨oc1, od1, .func (PySem.W.fnOf "__init__" "InvalidKey.__init__" (defArgs s_InvalidKey_init) (defBody s_InvalidKey_init) (defScope s_InvalidKey_init) .none kV1 dc1 pm1 an1 cd1 ct1), sl1⟩) (c1 : PySem.W.codeIn K cd1 "InvalidKey.__init__" = true) (k1 : PySem.W.keepIn K (.ref f1) = true)
    {od2 an2 : Option Addr} {sl2 : Array (Option Value)} {oc2 kV2 dc2 pm2 cd2 ct2 : Value}
    (a2 : PySem.W.findIn K (.ref C_InvalidSpan) "__init__" = some (some (.ref f2))) (l2 : K.lookup f2 = some ⟨oc2, od2, .func (PySem.W.fnOf "__init__" "InvalidSpan.__init__" (defArgs s_InvalidSpan_init) (defBody s_InvalidSpan_init) (defScope s_InvalidSpan_init) .none kV2 dc2 pm2 an2 cd2 ct2), sl2⟩) (c2 : PySem.W.codeIn K cd2 "InvalidSpan.__init__" = true) (k2 : PySem.W.keepIn K (.ref f2) = true)
    {od3 an3 : Option Addr} {sl3 : Array (Option Value)} {oc3 kV3 dc3 pm3 cd3 ct3 : Value}
    (a3 : PySem.W.findIn K (.ref C_InvalidSpans) "__init__" = some (some (.ref f3))) (l3 : K.lookup f3 = some ⟨oc3, od3, .func (PySem.W.fnOf "__init__" "InvalidSpans.__init__" (defArgs s_InvalidSpans_init) (defBody s_InvalidSpans_init) (defScope s_InvalidSpans_init) .none kV3 dc3 pm3 an3 cd3 ct3), sl3⟩) (c3 : PySem.W.codeIn K cd3 "InvalidSpans.__init__" = true) (k3 : PySem.W.keepIn K (.ref f3) = true)
    {od4 an4 : Option Addr} {sl4 : Array (Option Value)} {oc4 kV4 dc4 pm4 cd4 ct4 : Value}
    (a4 : PySem.W.findIn K (.ref C_InvalidCatalog) "__init__" = some (some (.ref f4))) (l4 : K.lookup f4 = some ⟨oc4, od4, .func (PySem.W.fnOf "__init__" "InvalidCatalog.__init__" (defArgs s_InvalidCatalog_init) (defBody s_InvalidCatalog_init) (defScope s_InvalidCatalog_init) .none kV4 dc4 pm4 an4 cd4 ct4), sl4⟩) (c4 : PySem.W.codeIn K cd4 "InvalidCatalog.__init__" = true) (k4 : PySem.W.keepIn K (.ref f4) = true)
    {od5 an5 : Option Addr} {sl5 : Array (Option Value)} {oc5 kV5 dc5 pm5 cd5 ct5 : Value}
    (a5 : PySem.W.findIn K (.ref C_InvalidChange) "__init__" = some (some (.ref f5))) (l5 : K.lookup f5 = some ⟨oc5, od5, .func (PySem.W.fnOf "__init__" "InvalidChange.__init__" (defArgs s_InvalidChange_init) (defBody s_InvalidChange_init) (defScope s_InvalidChange_init) .none kV5 dc5 pm5 an5 cd5 ct5), sl5⟩) (c5 : PySem.W.codeIn K cd5 "InvalidChange.__init__" = true) (k5 : PySem.W.keepIn K (.ref f5) = true)
    {od6 an6 : Option Addr} {sl6 : Array (Option Value)} {oc6 kV6 dc6 pm6 cd6 ct6 : Value}
    (a6 : PySem.W.findIn K (.ref C_InvalidModes) "__init__" = some (some (.ref f6))) (l6 : K.lookup f6 = some ⟨oc6, od6, .func (PySem.W.fnOf "__init__" "InvalidModes.__init__" (defArgs s_InvalidModes_init) (defBody s_InvalidModes_init) (defScope s_InvalidModes_init) .none kV6 dc6 pm6 an6 cd6 ct6), sl6⟩) (c6 : PySem.W.codeIn K cd6 "InvalidModes.__init__" = true) (k6 : PySem.W.keepIn K (.ref f6) = true)
    {od7 an7 : Option Addr} {sl7 : Array (Option Value)} {oc7 kV7 dc7 pm7 cd7 ct7 : Value}
    (a7 : PySem.W.findIn K (.ref C_InvalidClash) "__init__" = some (some (.ref f7))) (l7 : K.lookup f7 = some ⟨oc7, od7, .func (PySem.W.fnOf "__init__" "InvalidClash.__init__" (defArgs s_InvalidClash_init) (defBody s_InvalidClash_init) (defScope s_InvalidClash_init) .none kV7 dc7 pm7 an7 cd7 ct7), sl7⟩) (c7 : PySem.W.codeIn K cd7 "InvalidClash.__init__" = true) (k7 : PySem.W.keepIn K (.ref f7) = true)
    {od8 an8 : Option Addr} {sl8 : Array (Option Value)} {oc8 kV8 dc8 pm8 cd8 ct8 : Value}
    (a8 : PySem.W.findIn K (.ref C_InvalidStrengths) "__init__" = some (some (.ref f8))) (l8 : K.lookup f8 = some ⟨oc8, od8, .func (PySem.W.fnOf "__init__" "InvalidStrengths.__init__" (defArgs s_InvalidStrengths_init) (defBody s_InvalidStrengths_init) (defScope s_InvalidStrengths_init) .none kV8 dc8 pm8 an8 cd8 ct8), sl8⟩) (c8 : PySem.W.codeIn K cd8 "InvalidStrengths.__init__" = true) (k8 : PySem.W.keepIn K (.ref f8) = true)
    {od9 an9 : Option Addr} {sl9 : Array (Option Value)} {oc9 kV9 dc9 pm9 cd9 ct9 : Value}
    (a9 : PySem.W.findIn K (.ref C_InvalidProgram) "__init__" = some (some (.ref f9))) (l9 : K.lookup f9 = some ⟨oc9, od9, .func (PySem.W.fnOf "__init__" "InvalidProgram.__init__" (defArgs s_InvalidProgram_init) (defBody s_InvalidProgram_init) (defScope s_InvalidProgram_init) .none kV9 dc9 pm9 an9 cd9 ct9), sl9⟩) (c9 : PySem.W.codeIn K cd9 "InvalidProgram.__init__" = true) (k9 : PySem.W.keepIn K (.ref f9) = true)
    {od10 an10 : Option Addr} {sl10 : Array (Option Value)} {oc10 kV10 dc10 pm10 cd10 ct10 : Value}
    (a10 : PySem.W.findIn K (.ref C_InvalidPrograms) "__init__" = some (some (.ref f10))) (l10 : K.lookup f10 = some ⟨oc10, od10, .func (PySem.W.fnOf "__init__" "InvalidPrograms.__init__" (defArgs s_InvalidPrograms_init) (defBody s_InvalidPrograms_init) (defScope s_InvalidPrograms_init) .none kV10 dc10 pm10 an10 cd10 ct10), sl10⟩) (c10 : PySem.W.codeIn K cd10 "InvalidPrograms.__init__" = true) (k10 : PySem.W.keepIn K (.ref f10) = true)
    {od11 an11 : Option Addr} {sl11 : Array (Option Value)} {oc11 kV11 dc11 pm11 cd11 ct11 : Value}
    (a11 : PySem.W.findIn K (.ref C_InvalidProtocol) "__init__" = some (some (.ref f11))) (l11 : K.lookup f11 = some ⟨oc11, od11, .func (PySem.W.fnOf "__init__" "InvalidProtocol.__init__" (defArgs s_InvalidProtocol_init) (defBody s_InvalidProtocol_init) (defScope s_InvalidProtocol_init) .none kV11 dc11 pm11 an11 cd11 ct11), sl11⟩) (c11 : PySem.W.codeIn K cd11 "InvalidProtocol.__init__" = true) (k11 : PySem.W.keepIn K (.ref f11) = true)
    {od12 an12 : Option Addr} {sl12 : Array (Option Value)} {oc12 kV12 dc12 pm12 cd12 ct12 : Value}
    (a12 : PySem.W.findIn K (.ref C_InvalidRows) "__init__" = some (some (.ref f12))) (l12 : K.lookup f12 = some ⟨oc12, od12, .func (PySem.W.fnOf "__init__" "InvalidRows.__init__" (defArgs s_InvalidRows_init) (defBody s_InvalidRows_init) (defScope s_InvalidRows_init) .none kV12 dc12 pm12 an12 cd12 ct12), sl12⟩) (c12 : PySem.W.codeIn K cd12 "InvalidRows.__init__" = true) (k12 : PySem.W.keepIn K (.ref f12) = true)
    {od13 an13 : Option Addr} {sl13 : Array (Option Value)} {oc13 kV13 dc13 pm13 cd13 ct13 : Value}
    (a13 : PySem.W.findIn K (.ref C_InvalidSession) "__init__" = some (some (.ref f13))) (l13 : K.lookup f13 = some ⟨oc13, od13, .func (PySem.W.fnOf "__init__" "InvalidSession.__init__" (defArgs s_InvalidSession_init) (defBody s_InvalidSession_init) (defScope s_InvalidSession_init) .none kV13 dc13 pm13 an13 cd13 ct13), sl13⟩) (c13 : PySem.W.codeIn K cd13 "InvalidSession.__init__" = true) (k13 : PySem.W.keepIn K (.ref f13) = true)
    {od14 an14 : Option Addr} {sl14 : Array (Option Value)} {oc14 kV14 dc14 pm14 cd14 ct14 : Value}
    (a14 : PySem.W.findIn K (.ref C_InvalidNumber) "__init__" = some (some (.ref f14))) (l14 : K.lookup f14 = some ⟨oc14, od14, .func (PySem.W.fnOf "__init__" "InvalidNumber.__init__" (defArgs s_InvalidNumber_init) (defBody s_InvalidNumber_init) (defScope s_InvalidNumber_init) .none kV14 dc14 pm14 an14 cd14 ct14), sl14⟩) (c14 : PySem.W.codeIn K cd14 "InvalidNumber.__init__" = true) (k14 : PySem.W.keepIn K (.ref f14) = true)
    {od15 an15 : Option Addr} {sl15 : Array (Option Value)} {oc15 kV15 dc15 pm15 cd15 ct15 : Value}
    (a15 : PySem.W.findIn K (.ref C_InvalidWeaving) "__init__" = some (some (.ref f15))) (l15 : K.lookup f15 = some ⟨oc15, od15, .func (PySem.W.fnOf "__init__" "InvalidWeaving.__init__" (defArgs s_InvalidWeaving_init) (defBody s_InvalidWeaving_init) (defScope s_InvalidWeaving_init) .none kV15 dc15 pm15 an15 cd15 ct15), sl15⟩) (c15 : PySem.W.codeIn K cd15 "InvalidWeaving.__init__" = true) (k15 : PySem.W.keepIn K (.ref f15) = true)
    {od16 an16 : Option Addr} {sl16 : Array (Option Value)} {oc16 kV16 dc16 pm16 cd16 ct16 : Value}
    (a16 : PySem.W.findIn K (.ref C_InvalidStore) "__init__" = some (some (.ref f16))) (l16 : K.lookup f16 = some ⟨oc16, od16, .func (PySem.W.fnOf "__init__" "InvalidStore.__init__" (defArgs s_InvalidStore_init) (defBody s_InvalidStore_init) (defScope s_InvalidStore_init) .none kV16 dc16 pm16 an16 cd16 ct16), sl16⟩) (c16 : PySem.W.codeIn K cd16 "InvalidStore.__init__" = true) (k16 : PySem.W.keepIn K (.ref f16) = true)
    {od17 an17 : Option Addr} {sl17 : Array (Option Value)} {oc17 kV17 dc17 pm17 cd17 ct17 : Value}
    (a17 : PySem.W.findIn K (.ref C_InvalidScene) "__init__" = some (some (.ref f17))) (l17 : K.lookup f17 = some ⟨oc17, od17, .func (PySem.W.fnOf "__init__" "InvalidScene.__init__" (defArgs s_InvalidScene_init) (defBody s_InvalidScene_init) (defScope s_InvalidScene_init) .none kV17 dc17 pm17 an17 cd17 ct17), sl17⟩) (c17 : PySem.W.codeIn K cd17 "InvalidScene.__init__" = true) (k17 : PySem.W.keepIn K (.ref f17) = true)
    {od18 an18 : Option Addr} {sl18 : Array (Option Value)} {oc18 kV18 dc18 pm18 cd18 ct18 : Value}
    (a18 : PySem.W.findIn K (.ref C_InvalidLog) "__init__" = some (some (.ref f18))) (l18 : K.lookup f18 = some ⟨oc18, od18, .func (PySem.W.fnOf "__init__" "InvalidLog.__init__" (defArgs s_InvalidLog_init) (defBody s_InvalidLog_init) (defScope s_InvalidLog_init) .none kV18 dc18 pm18 an18 cd18 ct18), sl18⟩) (c18 : PySem.W.codeIn K cd18 "InvalidLog.__init__" = true) (k18 : PySem.W.keepIn K (.ref f18) = true)
    {od19 an19 : Option Addr} {sl19 : Array (Option Value)} {oc19 kV19 dc19 pm19 cd19 ct19 : Value}
    (a19 : PySem.W.findIn K (.ref C_InvalidText) "__init__" = some (some (.ref f19))) (l19 : K.lookup f19 = some ⟨oc19, od19, .func (PySem.W.fnOf "__init__" "InvalidText.__init__" (defArgs s_InvalidText_init) (defBody s_InvalidText_init) (defScope s_InvalidText_init) .none kV19 dc19 pm19 an19 cd19 ct19), sl19⟩) (c19 : PySem.W.codeIn K cd19 "InvalidText.__init__" = true) (k19 : PySem.W.keepIn K (.ref f19) = true)
    {od20 an20 : Option Addr} {sl20 : Array (Option Value)} {oc20 kV20 dc20 pm20 cd20 ct20 : Value}
    (a20 : PySem.W.findIn K (.ref C_InvalidCommand) "__init__" = some (some (.ref f20))) (l20 : K.lookup f20 = some ⟨oc20, od20, .func (PySem.W.fnOf "__init__" "InvalidCommand.__init__" (defArgs s_InvalidCommand_init) (defBody s_InvalidCommand_init) (defScope s_InvalidCommand_init) .none kV20 dc20 pm20 an20 cd20 ct20), sl20⟩) (c20 : PySem.W.codeIn K cd20 "InvalidCommand.__init__" = true) (k20 : PySem.W.keepIn K (.ref f20) = true)
    {od21 an21 : Option Addr} {sl21 : Array (Option Value)} {oc21 kV21 dc21 pm21 cd21 ct21 : Value}
    (a21 : PySem.W.findIn K (.ref C_Duplicate) "__init__" = some (some (.ref f21))) (l21 : K.lookup f21 = some ⟨oc21, od21, .func (PySem.W.fnOf "__init__" "Duplicate.__init__" (defArgs s_Duplicate_init) (defBody s_Duplicate_init) (defScope s_Duplicate_init) .none kV21 dc21 pm21 an21 cd21 ct21), sl21⟩) (c21 : PySem.W.codeIn K cd21 "Duplicate.__init__" = true) (k21 : PySem.W.keepIn K (.ref f21) = true)
    {od22 an22 : Option Addr} {sl22 : Array (Option Value)} {oc22 kV22 dc22 pm22 cd22 ct22 : Value}
    (a22 : PySem.W.findIn K (.ref C_UnknownPart) "__init__" = some (some (.ref f22))) (l22 : K.lookup f22 = some ⟨oc22, od22, .func (PySem.W.fnOf "__init__" "UnknownPart.__init__" (defArgs s_UnknownPart_init) (defBody s_UnknownPart_init) (defScope s_UnknownPart_init) .none kV22 dc22 pm22 an22 cd22 ct22), sl22⟩) (c22 : PySem.W.codeIn K cd22 "UnknownPart.__init__" = true) (k22 : PySem.W.keepIn K (.ref f22) = true)
    {od23 an23 : Option Addr} {sl23 : Array (Option Value)} {oc23 kV23 dc23 pm23 cd23 ct23 : Value}
    (a23 : PySem.W.findIn K (.ref C_UnknownMode) "__init__" = some (some (.ref f23))) (l23 : K.lookup f23 = some ⟨oc23, od23, .func (PySem.W.fnOf "__init__" "UnknownMode.__init__" (defArgs s_UnknownMode_init) (defBody s_UnknownMode_init) (defScope s_UnknownMode_init) .none kV23 dc23 pm23 an23 cd23 ct23), sl23⟩) (c23 : PySem.W.codeIn K cd23 "UnknownMode.__init__" = true) (k23 : PySem.W.keepIn K (.ref f23) = true)
    {od24 an24 : Option Addr} {sl24 : Array (Option Value)} {oc24 kV24 dc24 pm24 cd24 ct24 : Value}
    (a24 : PySem.W.findIn K (.ref C_UnknownEntry) "__init__" = some (some (.ref f24))) (l24 : K.lookup f24 = some ⟨oc24, od24, .func (PySem.W.fnOf "__init__" "UnknownEntry.__init__" (defArgs s_UnknownEntry_init) (defBody s_UnknownEntry_init) (defScope s_UnknownEntry_init) .none kV24 dc24 pm24 an24 cd24 ct24), sl24⟩) (c24 : PySem.W.codeIn K cd24 "UnknownEntry.__init__" = true) (k24 : PySem.W.keepIn K (.ref f24) = true)
    {od25 an25 : Option Addr} {sl25 : Array (Option Value)} {oc25 kV25 dc25 pm25 cd25 ct25 : Value}
    (a25 : PySem.W.findIn K (.ref C_NameTaken) "__init__" = some (some (.ref f25))) (l25 : K.lookup f25 = some ⟨oc25, od25, .func (PySem.W.fnOf "__init__" "NameTaken.__init__" (defArgs s_NameTaken_init) (defBody s_NameTaken_init) (defScope s_NameTaken_init) .none kV25 dc25 pm25 an25 cd25 ct25), sl25⟩) (c25 : PySem.W.codeIn K cd25 "NameTaken.__init__" = true) (k25 : PySem.W.keepIn K (.ref f25) = true)
    {od26 an26 : Option Addr} {sl26 : Array (Option Value)} {oc26 kV26 dc26 pm26 cd26 ct26 : Value}
    (a26 : PySem.W.findIn K (.ref C_Overlap) "__init__" = some (some (.ref f26))) (l26 : K.lookup f26 = some ⟨oc26, od26, .func (PySem.W.fnOf "__init__" "Overlap.__init__" (defArgs s_Overlap_init) (defBody s_Overlap_init) (defScope s_Overlap_init) .none kV26 dc26 pm26 an26 cd26 ct26), sl26⟩) (c26 : PySem.W.codeIn K cd26 "Overlap.__init__" = true) (k26 : PySem.W.keepIn K (.ref f26) = true)
    {od27 an27 : Option Addr} {sl27 : Array (Option Value)} {oc27 kV27 dc27 pm27 cd27 ct27 : Value}
    (a27 : PySem.W.findIn K (.ref C_NotInside) "__init__" = some (some (.ref f27))) (l27 : K.lookup f27 = some ⟨oc27, od27, .func (PySem.W.fnOf "__init__" "NotInside.__init__" (defArgs s_NotInside_init) (defBody s_NotInside_init) (defScope s_NotInside_init) .none kV27 dc27 pm27 an27 cd27 ct27), sl27⟩) (c27 : PySem.W.codeIn K cd27 "NotInside.__init__" = true) (k27 : PySem.W.keepIn K (.ref f27) = true)
    {od28 an28 : Option Addr} {sl28 : Array (Option Value)} {oc28 kV28 dc28 pm28 cd28 ct28 : Value}
    (a28 : PySem.W.findIn K (.ref C_NotNeighbours) "__init__" = some (some (.ref f28))) (l28 : K.lookup f28 = some ⟨oc28, od28, .func (PySem.W.fnOf "__init__" "NotNeighbours.__init__" (defArgs s_NotNeighbours_init) (defBody s_NotNeighbours_init) (defScope s_NotNeighbours_init) .none kV28 dc28 pm28 an28 cd28 ct28), sl28⟩) (c28 : PySem.W.codeIn K cd28 "NotNeighbours.__init__" = true) (k28 : PySem.W.keepIn K (.ref f28) = true)
    {od29 an29 : Option Addr} {sl29 : Array (Option Value)} {oc29 kV29 dc29 pm29 cd29 ct29 : Value}
    (a29 : PySem.W.findIn K (.ref C_NoProgram) "__init__" = some (some (.ref f29))) (l29 : K.lookup f29 = some ⟨oc29, od29, .func (PySem.W.fnOf "__init__" "NoProgram.__init__" (defArgs s_NoProgram_init) (defBody s_NoProgram_init) (defScope s_NoProgram_init) .none kV29 dc29 pm29 an29 cd29 ct29), sl29⟩) (c29 : PySem.W.codeIn K cd29 "NoProgram.__init__" = true) (k29 : PySem.W.keepIn K (.ref f29) = true)
    {od30 an30 : Option Addr} {sl30 : Array (Option Value)} {oc30 kV30 dc30 pm30 cd30 ct30 : Value}
    (a30 : PySem.W.findIn K (.ref C_TooMany) "__init__" = some (some (.ref f30))) (l30 : K.lookup f30 = some ⟨oc30, od30, .func (PySem.W.fnOf "__init__" "TooMany.__init__" (defArgs s_TooMany_init) (defBody s_TooMany_init) (defScope s_TooMany_init) .none kV30 dc30 pm30 an30 cd30 ct30), sl30⟩) (c30 : PySem.W.codeIn K cd30 "TooMany.__init__" = true) (k30 : PySem.W.keepIn K (.ref f30) = true)
    {od31 an31 : Option Addr} {sl31 : Array (Option Value)} {oc31 kV31 dc31 pm31 cd31 ct31 : Value}
    (a31 : PySem.W.findIn K (.ref C_Ended) "__init__" = some (some (.ref f31))) (l31 : K.lookup f31 = some ⟨oc31, od31, .func (PySem.W.fnOf "__init__" "Ended.__init__" (defArgs s_Ended_init) (defBody s_Ended_init) (defScope s_Ended_init) .none kV31 dc31 pm31 an31 cd31 ct31), sl31⟩) (c31 : PySem.W.codeIn K cd31 "Ended.__init__" = true) (k31 : PySem.W.keepIn K (.ref f31) = true)
    {od32 an32 : Option Addr} {sl32 : Array (Option Value)} {oc32 kV32 dc32 pm32 cd32 ct32 : Value}
    (a32 : PySem.W.findIn K (.ref C_Waiting) "__init__" = some (some (.ref f32))) (l32 : K.lookup f32 = some ⟨oc32, od32, .func (PySem.W.fnOf "__init__" "Waiting.__init__" (defArgs s_Waiting_init) (defBody s_Waiting_init) (defScope s_Waiting_init) .none kV32 dc32 pm32 an32 cd32 ct32), sl32⟩) (c32 : PySem.W.codeIn K cd32 "Waiting.__init__" = true) (k32 : PySem.W.keepIn K (.ref f32) = true)
    {od33 an33 : Option Addr} {sl33 : Array (Option Value)} {oc33 kV33 dc33 pm33 cd33 ct33 : Value}
    (a33 : PySem.W.nsIn K mainGlobals "_law_cell" = some (some (.ref f33))) (l33 : K.lookup f33 = some ⟨oc33, od33, .func (PySem.W.fnOf "_law_cell" "_law_cell" (defArgs s_law_cell) (defBody s_law_cell) (defScope s_law_cell) .none kV33 dc33 pm33 an33 cd33 ct33), sl33⟩) (c33 : PySem.W.codeIn K cd33 "_law_cell" = true) (k33 : PySem.W.keepIn K (.ref f33) = true)
    {od34 an34 : Option Addr} {sl34 : Array (Option Value)} {oc34 kV34 dc34 pm34 cd34 ct34 : Value}
    (a34 : PySem.W.nsIn K mainGlobals "_law_box" = some (some (.ref f34))) (l34 : K.lookup f34 = some ⟨oc34, od34, .func (PySem.W.fnOf "_law_box" "_law_box" (defArgs s_law_box) (defBody s_law_box) (defScope s_law_box) .none kV34 dc34 pm34 an34 cd34 ct34), sl34⟩) (c34 : PySem.W.codeIn K cd34 "_law_box" = true) (k34 : PySem.W.keepIn K (.ref f34) = true)
    {od35 an35 : Option Addr} {sl35 : Array (Option Value)} {oc35 kV35 dc35 pm35 cd35 ct35 : Value}
    (a35 : PySem.W.nsIn K mainGlobals "_law_take" = some (some (.ref f35))) (l35 : K.lookup f35 = some ⟨oc35, od35, .func (PySem.W.fnOf "_law_take" "_law_take" (defArgs s_law_take) (defBody s_law_take) (defScope s_law_take) .none kV35 dc35 pm35 an35 cd35 ct35), sl35⟩) (c35 : PySem.W.codeIn K cd35 "_law_take" = true) (k35 : PySem.W.keepIn K (.ref f35) = true)
    {od36 an36 : Option Addr} {sl36 : Array (Option Value)} {oc36 kV36 dc36 pm36 cd36 ct36 : Value}
    (a36 : PySem.W.nsIn K mainGlobals "_law_made" = some (some (.ref f36))) (l36 : K.lookup f36 = some ⟨oc36, od36, .func (PySem.W.fnOf "_law_made" "_law_made" (defArgs s_law_made) (defBody s_law_made) (defScope s_law_made) .none kV36 dc36 pm36 an36 cd36 ct36), sl36⟩) (c36 : PySem.W.codeIn K cd36 "_law_made" = true) (k36 : PySem.W.keepIn K (.ref f36) = true)
    {od37 an37 : Option Addr} {sl37 : Array (Option Value)} {oc37 kV37 dc37 pm37 cd37 ct37 : Value}
    (a37 : PySem.W.nsIn K mainGlobals "_law_classes" = some (some (.ref f37))) (l37 : K.lookup f37 = some ⟨oc37, od37, .func (PySem.W.fnOf "_law_classes" "_law_classes" (defArgs s_law_classes) (defBody s_law_classes) (defScope s_law_classes) .none kV37 dc37 pm37 an37 cd37 ct37), sl37⟩) (c37 : PySem.W.codeIn K cd37 "_law_classes" = true) (k37 : PySem.W.keepIn K (.ref f37) = true)
    {od38 an38 : Option Addr} {sl38 : Array (Option Value)} {oc38 kV38 dc38 pm38 cd38 ct38 : Value}
    (a38 : PySem.W.nsIn K mainGlobals "_law_fields" = some (some (.ref f38))) (l38 : K.lookup f38 = some ⟨oc38, od38, .func (PySem.W.fnOf "_law_fields" "_law_fields" (defArgs s_law_fields) (defBody s_law_fields) (defScope s_law_fields) .none kV38 dc38 pm38 an38 cd38 ct38), sl38⟩) (c38 : PySem.W.codeIn K cd38 "_law_fields" = true) (k38 : PySem.W.keepIn K (.ref f38) = true)
    {od39 an39 : Option Addr} {sl39 : Array (Option Value)} {oc39 kV39 dc39 pm39 cd39 ct39 : Value}
    (a39 : PySem.W.nsIn K mainGlobals "_law_under" = some (some (.ref f39))) (l39 : K.lookup f39 = some ⟨oc39, od39, .func (PySem.W.fnOf "_law_under" "_law_under" (defArgs s_law_under) (defBody s_law_under) (defScope s_law_under) .none kV39 dc39 pm39 an39 cd39 ct39), sl39⟩) (c39 : PySem.W.codeIn K cd39 "_law_under" = true) (k39 : PySem.W.keepIn K (.ref f39) = true)
    {od40 an40 : Option Addr} {sl40 : Array (Option Value)} {oc40 kV40 dc40 pm40 cd40 ct40 : Value}
    (a40 : PySem.W.nsIn K mainGlobals "law" = some (some (.ref f40))) (l40 : K.lookup f40 = some ⟨oc40, od40, .func (PySem.W.fnOf "law" "law" (defArgs s_law) (defBody s_law) (defScope s_law) .none kV40 dc40 pm40 an40 cd40 ct40), sl40⟩) (c40 : PySem.W.codeIn K cd40 "law" = true) (k40 : PySem.W.keepIn K (.ref f40) = true)
    (g_PartsError : PySem.W.nsIn K mainGlobals "PartsError" = some (some (.ref C_PartsError)))
    (g_InvalidName : PySem.W.nsIn K mainGlobals "InvalidName" = some (some (.ref C_InvalidName)))
    {nm_InvalidName qn_InvalidName : Str} {N_InvalidName : Addr} {bs_InvalidName bm_InvalidName : List Value} {sn_InvalidName : List Str} {sub_InvalidName : List Value} {ab_InvalidName : Bool} {col_InvalidName : Option Bool} {dd_InvalidName : Option Addr} {m0_InvalidName m1_InvalidName m2_InvalidName m3_InvalidName m5_InvalidName : Option Value}
    (xL_InvalidName : K.lookup C_InvalidName = some (excClassObj nm_InvalidName qn_InvalidName C_InvalidName N_InvalidName bs_InvalidName bm_InvalidName true sn_InvalidName sub_InvalidName ab_InvalidName col_InvalidName dd_InvalidName m0_InvalidName m1_InvalidName m2_InvalidName m3_InvalidName m5_InvalidName "ValueError.__new__")) (rB_InvalidName : PySem.HandSPX.refsVE bm_InvalidName = true)
    (sa_InvalidName : PySem.W.findIn K (.ref C_InvalidName) "__setattr__" = some (some (.builtin "object.__setattr__"))) (ga_InvalidName : PySem.W.findIn K (.ref C_InvalidName) "__getattribute__" = some (some (.builtin "BaseException.__getattribute__"))) (gg_InvalidName : PySem.W.findIn K (.ref C_InvalidName) "__getattr__" = some none) (nb_InvalidName : PySem.W.findIn K (.ref C_InvalidName) "value" = some none)
    (t1_InvalidName : PySem.W.typeIn K (.ref f0) = some (.type "function")) (kC_InvalidName : PySem.W.keepIn K (.ref C_InvalidName) = true) (eC_InvalidName : PySem.W.subIn K (.ref C_InvalidName) (.type "BaseException") = some true) (tC_InvalidName : PySem.W.typeIn K (.ref C_InvalidName) = some (.type "type")) (hC_InvalidName : PySem.W.hasDictIn K C_InvalidName = true)
    (g_InvalidKey : PySem.W.nsIn K mainGlobals "InvalidKey" = some (some (.ref C_InvalidKey)))
    {nm_InvalidKey qn_InvalidKey : Str} {N_InvalidKey : Addr} {bs_InvalidKey bm_InvalidKey : List Value} {sn_InvalidKey : List Str} {sub_InvalidKey : List Value} {ab_InvalidKey : Bool} {col_InvalidKey : Option Bool} {dd_InvalidKey : Option Addr} {m0_InvalidKey m1_InvalidKey m2_InvalidKey m3_InvalidKey m5_InvalidKey : Option Value}
    (xL_InvalidKey : K.lookup C_InvalidKey = some (excClassObj nm_InvalidKey qn_InvalidKey C_InvalidKey N_InvalidKey bs_InvalidKey bm_InvalidKey true sn_InvalidKey sub_InvalidKey ab_InvalidKey col_InvalidKey dd_InvalidKey m0_InvalidKey m1_InvalidKey m2_InvalidKey m3_InvalidKey m5_InvalidKey "ValueError.__new__")) (rB_InvalidKey : PySem.HandSPX.refsVE bm_InvalidKey = true)
    (sa_InvalidKey : PySem.W.findIn K (.ref C_InvalidKey) "__setattr__" = some (some (.builtin "object.__setattr__"))) (ga_InvalidKey : PySem.W.findIn K (.ref C_InvalidKey) "__getattribute__" = some (some (.builtin "BaseException.__getattribute__"))) (gg_InvalidKey : PySem.W.findIn K (.ref C_InvalidKey) "__getattr__" = some none) (nb_InvalidKey : PySem.W.findIn K (.ref C_InvalidKey) "value" = some none)
    (t1_InvalidKey : PySem.W.typeIn K (.ref f1) = some (.type "function")) (kC_InvalidKey : PySem.W.keepIn K (.ref C_InvalidKey) = true) (eC_InvalidKey : PySem.W.subIn K (.ref C_InvalidKey) (.type "BaseException") = some true) (tC_InvalidKey : PySem.W.typeIn K (.ref C_InvalidKey) = some (.type "type")) (hC_InvalidKey : PySem.W.hasDictIn K C_InvalidKey = true)
    (g_InvalidSpan : PySem.W.nsIn K mainGlobals "InvalidSpan" = some (some (.ref C_InvalidSpan)))
    {nm_InvalidSpan qn_InvalidSpan : Str} {N_InvalidSpan : Addr} {bs_InvalidSpan bm_InvalidSpan : List Value} {sn_InvalidSpan : List Str} {sub_InvalidSpan : List Value} {ab_InvalidSpan : Bool} {col_InvalidSpan : Option Bool} {dd_InvalidSpan : Option Addr} {m0_InvalidSpan m1_InvalidSpan m2_InvalidSpan m3_InvalidSpan m5_InvalidSpan : Option Value}
    (xL_InvalidSpan : K.lookup C_InvalidSpan = some (excClassObj nm_InvalidSpan qn_InvalidSpan C_InvalidSpan N_InvalidSpan bs_InvalidSpan bm_InvalidSpan true sn_InvalidSpan sub_InvalidSpan ab_InvalidSpan col_InvalidSpan dd_InvalidSpan m0_InvalidSpan m1_InvalidSpan m2_InvalidSpan m3_InvalidSpan m5_InvalidSpan "ValueError.__new__")) (rB_InvalidSpan : PySem.HandSPX.refsVE bm_InvalidSpan = true)
    (sa_InvalidSpan : PySem.W.findIn K (.ref C_InvalidSpan) "__setattr__" = some (some (.builtin "object.__setattr__"))) (ga_InvalidSpan : PySem.W.findIn K (.ref C_InvalidSpan) "__getattribute__" = some (some (.builtin "BaseException.__getattribute__"))) (gg_InvalidSpan : PySem.W.findIn K (.ref C_InvalidSpan) "__getattr__" = some none) (nb_InvalidSpan : PySem.W.findIn K (.ref C_InvalidSpan) "value" = some none)
    (t1_InvalidSpan : PySem.W.typeIn K (.ref f2) = some (.type "function")) (kC_InvalidSpan : PySem.W.keepIn K (.ref C_InvalidSpan) = true) (eC_InvalidSpan : PySem.W.subIn K (.ref C_InvalidSpan) (.type "BaseException") = some true) (tC_InvalidSpan : PySem.W.typeIn K (.ref C_InvalidSpan) = some (.type "type")) (hC_InvalidSpan : PySem.W.hasDictIn K C_InvalidSpan = true)
    (g_InvalidSpans : PySem.W.nsIn K mainGlobals "InvalidSpans" = some (some (.ref C_InvalidSpans)))
    {nm_InvalidSpans qn_InvalidSpans : Str} {N_InvalidSpans : Addr} {bs_InvalidSpans bm_InvalidSpans : List Value} {sn_InvalidSpans : List Str} {sub_InvalidSpans : List Value} {ab_InvalidSpans : Bool} {col_InvalidSpans : Option Bool} {dd_InvalidSpans : Option Addr} {m0_InvalidSpans m1_InvalidSpans m2_InvalidSpans m3_InvalidSpans m5_InvalidSpans : Option Value}
    (xL_InvalidSpans : K.lookup C_InvalidSpans = some (excClassObj nm_InvalidSpans qn_InvalidSpans C_InvalidSpans N_InvalidSpans bs_InvalidSpans bm_InvalidSpans true sn_InvalidSpans sub_InvalidSpans ab_InvalidSpans col_InvalidSpans dd_InvalidSpans m0_InvalidSpans m1_InvalidSpans m2_InvalidSpans m3_InvalidSpans m5_InvalidSpans "ValueError.__new__")) (rB_InvalidSpans : PySem.HandSPX.refsVE bm_InvalidSpans = true)
    (sa_InvalidSpans : PySem.W.findIn K (.ref C_InvalidSpans) "__setattr__" = some (some (.builtin "object.__setattr__"))) (ga_InvalidSpans : PySem.W.findIn K (.ref C_InvalidSpans) "__getattribute__" = some (some (.builtin "BaseException.__getattribute__"))) (gg_InvalidSpans : PySem.W.findIn K (.ref C_InvalidSpans) "__getattr__" = some none) (nb_InvalidSpans : PySem.W.findIn K (.ref C_InvalidSpans) "value" = some none)
    (t1_InvalidSpans : PySem.W.typeIn K (.ref f3) = some (.type "function")) (kC_InvalidSpans : PySem.W.keepIn K (.ref C_InvalidSpans) = true) (eC_InvalidSpans : PySem.W.subIn K (.ref C_InvalidSpans) (.type "BaseException") = some true) (tC_InvalidSpans : PySem.W.typeIn K (.ref C_InvalidSpans) = some (.type "type")) (hC_InvalidSpans : PySem.W.hasDictIn K C_InvalidSpans = true)
    (g_InvalidCatalog : PySem.W.nsIn K mainGlobals "InvalidCatalog" = some (some (.ref C_InvalidCatalog)))
    {nm_InvalidCatalog qn_InvalidCatalog : Str} {N_InvalidCatalog : Addr} {bs_InvalidCatalog bm_InvalidCatalog : List Value} {sn_InvalidCatalog : List Str} {sub_InvalidCatalog : List Value} {ab_InvalidCatalog : Bool} {col_InvalidCatalog : Option Bool} {dd_InvalidCatalog : Option Addr} {m0_InvalidCatalog m1_InvalidCatalog m2_InvalidCatalog m3_InvalidCatalog m5_InvalidCatalog : Option Value}
    (xL_InvalidCatalog : K.lookup C_InvalidCatalog = some (excClassObj nm_InvalidCatalog qn_InvalidCatalog C_InvalidCatalog N_InvalidCatalog bs_InvalidCatalog bm_InvalidCatalog true sn_InvalidCatalog sub_InvalidCatalog ab_InvalidCatalog col_InvalidCatalog dd_InvalidCatalog m0_InvalidCatalog m1_InvalidCatalog m2_InvalidCatalog m3_InvalidCatalog m5_InvalidCatalog "ValueError.__new__")) (rB_InvalidCatalog : PySem.HandSPX.refsVE bm_InvalidCatalog = true)
    (sa_InvalidCatalog : PySem.W.findIn K (.ref C_InvalidCatalog) "__setattr__" = some (some (.builtin "object.__setattr__"))) (ga_InvalidCatalog : PySem.W.findIn K (.ref C_InvalidCatalog) "__getattribute__" = some (some (.builtin "BaseException.__getattribute__"))) (gg_InvalidCatalog : PySem.W.findIn K (.ref C_InvalidCatalog) "__getattr__" = some none) (nb_InvalidCatalog : PySem.W.findIn K (.ref C_InvalidCatalog) "value" = some none)
    (t1_InvalidCatalog : PySem.W.typeIn K (.ref f4) = some (.type "function")) (kC_InvalidCatalog : PySem.W.keepIn K (.ref C_InvalidCatalog) = true) (eC_InvalidCatalog : PySem.W.subIn K (.ref C_InvalidCatalog) (.type "BaseException") = some true) (tC_InvalidCatalog : PySem.W.typeIn K (.ref C_InvalidCatalog) = some (.type "type")) (hC_InvalidCatalog : PySem.W.hasDictIn K C_InvalidCatalog = true)
    (g_InvalidChange : PySem.W.nsIn K mainGlobals "InvalidChange" = some (some (.ref C_InvalidChange)))
    {nm_InvalidChange qn_InvalidChange : Str} {N_InvalidChange : Addr} {bs_InvalidChange bm_InvalidChange : List Value} {sn_InvalidChange : List Str} {sub_InvalidChange : List Value} {ab_InvalidChange : Bool} {col_InvalidChange : Option Bool} {dd_InvalidChange : Option Addr} {m0_InvalidChange m1_InvalidChange m2_InvalidChange m3_InvalidChange m5_InvalidChange : Option Value}
    (xL_InvalidChange : K.lookup C_InvalidChange = some (excClassObj nm_InvalidChange qn_InvalidChange C_InvalidChange N_InvalidChange bs_InvalidChange bm_InvalidChange true sn_InvalidChange sub_InvalidChange ab_InvalidChange col_InvalidChange dd_InvalidChange m0_InvalidChange m1_InvalidChange m2_InvalidChange m3_InvalidChange m5_InvalidChange "ValueError.__new__")) (rB_InvalidChange : PySem.HandSPX.refsVE bm_InvalidChange = true)
    (sa_InvalidChange : PySem.W.findIn K (.ref C_InvalidChange) "__setattr__" = some (some (.builtin "object.__setattr__"))) (ga_InvalidChange : PySem.W.findIn K (.ref C_InvalidChange) "__getattribute__" = some (some (.builtin "BaseException.__getattribute__"))) (gg_InvalidChange : PySem.W.findIn K (.ref C_InvalidChange) "__getattr__" = some none) (nb_InvalidChange : PySem.W.findIn K (.ref C_InvalidChange) "value" = some none)
    (t1_InvalidChange : PySem.W.typeIn K (.ref f5) = some (.type "function")) (kC_InvalidChange : PySem.W.keepIn K (.ref C_InvalidChange) = true) (eC_InvalidChange : PySem.W.subIn K (.ref C_InvalidChange) (.type "BaseException") = some true) (tC_InvalidChange : PySem.W.typeIn K (.ref C_InvalidChange) = some (.type "type")) (hC_InvalidChange : PySem.W.hasDictIn K C_InvalidChange = true)
    (g_InvalidModes : PySem.W.nsIn K mainGlobals "InvalidModes" = some (some (.ref C_InvalidModes)))
    {nm_InvalidModes qn_InvalidModes : Str} {N_InvalidModes : Addr} {bs_InvalidModes bm_InvalidModes : List Value} {sn_InvalidModes : List Str} {sub_InvalidModes : List Value} {ab_InvalidModes : Bool} {col_InvalidModes : Option Bool} {dd_InvalidModes : Option Addr} {m0_InvalidModes m1_InvalidModes m2_InvalidModes m3_InvalidModes m5_InvalidModes : Option Value}
    (xL_InvalidModes : K.lookup C_InvalidModes = some (excClassObj nm_InvalidModes qn_InvalidModes C_InvalidModes N_InvalidModes bs_InvalidModes bm_InvalidModes true sn_InvalidModes sub_InvalidModes ab_InvalidModes col_InvalidModes dd_InvalidModes m0_InvalidModes m1_InvalidModes m2_InvalidModes m3_InvalidModes m5_InvalidModes "ValueError.__new__")) (rB_InvalidModes : PySem.HandSPX.refsVE bm_InvalidModes = true)
    (sa_InvalidModes : PySem.W.findIn K (.ref C_InvalidModes) "__setattr__" = some (some (.builtin "object.__setattr__"))) (ga_InvalidModes : PySem.W.findIn K (.ref C_InvalidModes) "__getattribute__" = some (some (.builtin "BaseException.__getattribute__"))) (gg_InvalidModes : PySem.W.findIn K (.ref C_InvalidModes) "__getattr__" = some none) (nb_InvalidModes : PySem.W.findIn K (.ref C_InvalidModes) "value" = some none)
    (t1_InvalidModes : PySem.W.typeIn K (.ref f6) = some (.type "function")) (kC_InvalidModes : PySem.W.keepIn K (.ref C_InvalidModes) = true) (eC_InvalidModes : PySem.W.subIn K (.ref C_InvalidModes) (.type "BaseException") = some true) (tC_InvalidModes : PySem.W.typeIn K (.ref C_InvalidModes) = some (.type "type")) (hC_InvalidModes : PySem.W.hasDictIn K C_InvalidModes = true)
    (g_InvalidClash : PySem.W.nsIn K mainGlobals "InvalidClash" = some (some (.ref C_InvalidClash)))
    {nm_InvalidClash qn_InvalidClash : Str} {N_InvalidClash : Addr} {bs_InvalidClash bm_InvalidClash : List Value} {sn_InvalidClash : List Str} {sub_InvalidClash : List Value} {ab_InvalidClash : Bool} {col_InvalidClash : Option Bool} {dd_InvalidClash : Option Addr} {m0_InvalidClash m1_InvalidClash m2_InvalidClash m3_InvalidClash m5_InvalidClash : Option Value}
    (xL_InvalidClash : K.lookup C_InvalidClash = some (excClassObj nm_InvalidClash qn_InvalidClash C_InvalidClash N_InvalidClash bs_InvalidClash bm_InvalidClash true sn_InvalidClash sub_InvalidClash ab_InvalidClash col_InvalidClash dd_InvalidClash m0_InvalidClash m1_InvalidClash m2_InvalidClash m3_InvalidClash m5_InvalidClash "ValueError.__new__")) (rB_InvalidClash : PySem.HandSPX.refsVE bm_InvalidClash = true)
    (sa_InvalidClash : PySem.W.findIn K (.ref C_InvalidClash) "__setattr__" = some (some (.builtin "object.__setattr__"))) (ga_InvalidClash : PySem.W.findIn K (.ref C_InvalidClash) "__getattribute__" = some (some (.builtin "BaseException.__getattribute__"))) (gg_InvalidClash : PySem.W.findIn K (.ref C_InvalidClash) "__getattr__" = some none) (nb_InvalidClash : PySem.W.findIn K (.ref C_InvalidClash) "value" = some none)
    (t1_InvalidClash : PySem.W.typeIn K (.ref f7) = some (.type "function")) (kC_InvalidClash : PySem.W.keepIn K (.ref C_InvalidClash) = true) (eC_InvalidClash : PySem.W.subIn K (.ref C_InvalidClash) (.type "BaseException") = some true) (tC_InvalidClash : PySem.W.typeIn K (.ref C_InvalidClash) = some (.type "type")) (hC_InvalidClash : PySem.W.hasDictIn K C_InvalidClash = true)
    (g_InvalidStrengths : PySem.W.nsIn K mainGlobals "InvalidStrengths" = some (some (.ref C_InvalidStrengths)))
    {nm_InvalidStrengths qn_InvalidStrengths : Str} {N_InvalidStrengths : Addr} {bs_InvalidStrengths bm_InvalidStrengths : List Value} {sn_InvalidStrengths : List Str} {sub_InvalidStrengths : List Value} {ab_InvalidStrengths : Bool} {col_InvalidStrengths : Option Bool} {dd_InvalidStrengths : Option Addr} {m0_InvalidStrengths m1_InvalidStrengths m2_InvalidStrengths m3_InvalidStrengths m5_InvalidStrengths : Option Value}
    (xL_InvalidStrengths : K.lookup C_InvalidStrengths = some (excClassObj nm_InvalidStrengths qn_InvalidStrengths C_InvalidStrengths N_InvalidStrengths bs_InvalidStrengths bm_InvalidStrengths true sn_InvalidStrengths sub_InvalidStrengths ab_InvalidStrengths col_InvalidStrengths dd_InvalidStrengths m0_InvalidStrengths m1_InvalidStrengths m2_InvalidStrengths m3_InvalidStrengths m5_InvalidStrengths "ValueError.__new__")) (rB_InvalidStrengths : PySem.HandSPX.refsVE bm_InvalidStrengths = true)
    (sa_InvalidStrengths : PySem.W.findIn K (.ref C_InvalidStrengths) "__setattr__" = some (some (.builtin "object.__setattr__"))) (ga_InvalidStrengths : PySem.W.findIn K (.ref C_InvalidStrengths) "__getattribute__" = some (some (.builtin "BaseException.__getattribute__"))) (gg_InvalidStrengths : PySem.W.findIn K (.ref C_InvalidStrengths) "__getattr__" = some none) (nb_InvalidStrengths : PySem.W.findIn K (.ref C_InvalidStrengths) "value" = some none)
    (t1_InvalidStrengths : PySem.W.typeIn K (.ref f8) = some (.type "function")) (kC_InvalidStrengths : PySem.W.keepIn K (.ref C_InvalidStrengths) = true) (eC_InvalidStrengths : PySem.W.subIn K (.ref C_InvalidStrengths) (.type "BaseException") = some true) (tC_InvalidStrengths : PySem.W.typeIn K (.ref C_InvalidStrengths) = some (.type "type")) (hC_InvalidStrengths : PySem.W.hasDictIn K C_InvalidStrengths = true)
    (g_InvalidProgram : PySem.W.nsIn K mainGlobals "InvalidProgram" = some (some (.ref C_InvalidProgram)))
    {nm_InvalidProgram qn_InvalidProgram : Str} {N_InvalidProgram : Addr} {bs_InvalidProgram bm_InvalidProgram : List Value} {sn_InvalidProgram : List Str} {sub_InvalidProgram : List Value} {ab_InvalidProgram : Bool} {col_InvalidProgram : Option Bool} {dd_InvalidProgram : Option Addr} {m0_InvalidProgram m1_InvalidProgram m2_InvalidProgram m3_InvalidProgram m5_InvalidProgram : Option Value}
    (xL_InvalidProgram : K.lookup C_InvalidProgram = some (excClassObj nm_InvalidProgram qn_InvalidProgram C_InvalidProgram N_InvalidProgram bs_InvalidProgram bm_InvalidProgram true sn_InvalidProgram sub_InvalidProgram ab_InvalidProgram col_InvalidProgram dd_InvalidProgram m0_InvalidProgram m1_InvalidProgram m2_InvalidProgram m3_InvalidProgram m5_InvalidProgram "ValueError.__new__")) (rB_InvalidProgram : PySem.HandSPX.refsVE bm_InvalidProgram = true)
    (sa_InvalidProgram : PySem.W.findIn K (.ref C_InvalidProgram) "__setattr__" = some (some (.builtin "object.__setattr__"))) (ga_InvalidProgram : PySem.W.findIn K (.ref C_InvalidProgram) "__getattribute__" = some (some (.builtin "BaseException.__getattribute__"))) (gg_InvalidProgram : PySem.W.findIn K (.ref C_InvalidProgram) "__getattr__" = some none) (nb_InvalidProgram : PySem.W.findIn K (.ref C_InvalidProgram) "value" = some none)
    (t1_InvalidProgram : PySem.W.typeIn K (.ref f9) = some (.type "function")) (kC_InvalidProgram : PySem.W.keepIn K (.ref C_InvalidProgram) = true) (eC_InvalidProgram : PySem.W.subIn K (.ref C_InvalidProgram) (.type "BaseException") = some true) (tC_InvalidProgram : PySem.W.typeIn K (.ref C_InvalidProgram) = some (.type "type")) (hC_InvalidProgram : PySem.W.hasDictIn K C_InvalidProgram = true)
    (g_InvalidPrograms : PySem.W.nsIn K mainGlobals "InvalidPrograms" = some (some (.ref C_InvalidPrograms)))
    {nm_InvalidPrograms qn_InvalidPrograms : Str} {N_InvalidPrograms : Addr} {bs_InvalidPrograms bm_InvalidPrograms : List Value} {sn_InvalidPrograms : List Str} {sub_InvalidPrograms : List Value} {ab_InvalidPrograms : Bool} {col_InvalidPrograms : Option Bool} {dd_InvalidPrograms : Option Addr} {m0_InvalidPrograms m1_InvalidPrograms m2_InvalidPrograms m3_InvalidPrograms m5_InvalidPrograms : Option Value}
    (xL_InvalidPrograms : K.lookup C_InvalidPrograms = some (excClassObj nm_InvalidPrograms qn_InvalidPrograms C_InvalidPrograms N_InvalidPrograms bs_InvalidPrograms bm_InvalidPrograms true sn_InvalidPrograms sub_InvalidPrograms ab_InvalidPrograms col_InvalidPrograms dd_InvalidPrograms m0_InvalidPrograms m1_InvalidPrograms m2_InvalidPrograms m3_InvalidPrograms m5_InvalidPrograms "ValueError.__new__")) (rB_InvalidPrograms : PySem.HandSPX.refsVE bm_InvalidPrograms = true)
    (sa_InvalidPrograms : PySem.W.findIn K (.ref C_InvalidPrograms) "__setattr__" = some (some (.builtin "object.__setattr__"))) (ga_InvalidPrograms : PySem.W.findIn K (.ref C_InvalidPrograms) "__getattribute__" = some (some (.builtin "BaseException.__getattribute__"))) (gg_InvalidPrograms : PySem.W.findIn K (.ref C_InvalidPrograms) "__getattr__" = some none) (nb_InvalidPrograms : PySem.W.findIn K (.ref C_InvalidPrograms) "value" = some none)
    (t1_InvalidPrograms : PySem.W.typeIn K (.ref f10) = some (.type "function")) (kC_InvalidPrograms : PySem.W.keepIn K (.ref C_InvalidPrograms) = true) (eC_InvalidPrograms : PySem.W.subIn K (.ref C_InvalidPrograms) (.type "BaseException") = some true) (tC_InvalidPrograms : PySem.W.typeIn K (.ref C_InvalidPrograms) = some (.type "type")) (hC_InvalidPrograms : PySem.W.hasDictIn K C_InvalidPrograms = true)
    (g_InvalidProtocol : PySem.W.nsIn K mainGlobals "InvalidProtocol" = some (some (.ref C_InvalidProtocol)))
    {nm_InvalidProtocol qn_InvalidProtocol : Str} {N_InvalidProtocol : Addr} {bs_InvalidProtocol bm_InvalidProtocol : List Value} {sn_InvalidProtocol : List Str} {sub_InvalidProtocol : List Value} {ab_InvalidProtocol : Bool} {col_InvalidProtocol : Option Bool} {dd_InvalidProtocol : Option Addr} {m0_InvalidProtocol m1_InvalidProtocol m2_InvalidProtocol m3_InvalidProtocol m5_InvalidProtocol : Option Value}
    (xL_InvalidProtocol : K.lookup C_InvalidProtocol = some (excClassObj nm_InvalidProtocol qn_InvalidProtocol C_InvalidProtocol N_InvalidProtocol bs_InvalidProtocol bm_InvalidProtocol true sn_InvalidProtocol sub_InvalidProtocol ab_InvalidProtocol col_InvalidProtocol dd_InvalidProtocol m0_InvalidProtocol m1_InvalidProtocol m2_InvalidProtocol m3_InvalidProtocol m5_InvalidProtocol "ValueError.__new__")) (rB_InvalidProtocol : PySem.HandSPX.refsVE bm_InvalidProtocol = true)
    (sa_InvalidProtocol : PySem.W.findIn K (.ref C_InvalidProtocol) "__setattr__" = some (some (.builtin "object.__setattr__"))) (ga_InvalidProtocol : PySem.W.findIn K (.ref C_InvalidProtocol) "__getattribute__" = some (some (.builtin "BaseException.__getattribute__"))) (gg_InvalidProtocol : PySem.W.findIn K (.ref C_InvalidProtocol) "__getattr__" = some none) (nb_InvalidProtocol : PySem.W.findIn K (.ref C_InvalidProtocol) "value" = some none)
    (t1_InvalidProtocol : PySem.W.typeIn K (.ref f11) = some (.type "function")) (kC_InvalidProtocol : PySem.W.keepIn K (.ref C_InvalidProtocol) = true) (eC_InvalidProtocol : PySem.W.subIn K (.ref C_InvalidProtocol) (.type "BaseException") = some true) (tC_InvalidProtocol : PySem.W.typeIn K (.ref C_InvalidProtocol) = some (.type "type")) (hC_InvalidProtocol : PySem.W.hasDictIn K C_InvalidProtocol = true)
    (g_InvalidRows : PySem.W.nsIn K mainGlobals "InvalidRows" = some (some (.ref C_InvalidRows)))
    {nm_InvalidRows qn_InvalidRows : Str} {N_InvalidRows : Addr} {bs_InvalidRows bm_InvalidRows : List Value} {sn_InvalidRows : List Str} {sub_InvalidRows : List Value} {ab_InvalidRows : Bool} {col_InvalidRows : Option Bool} {dd_InvalidRows : Option Addr} {m0_InvalidRows m1_InvalidRows m2_InvalidRows m3_InvalidRows m5_InvalidRows : Option Value}
    (xL_InvalidRows : K.lookup C_InvalidRows = some (excClassObj nm_InvalidRows qn_InvalidRows C_InvalidRows N_InvalidRows bs_InvalidRows bm_InvalidRows true sn_InvalidRows sub_InvalidRows ab_InvalidRows col_InvalidRows dd_InvalidRows m0_InvalidRows m1_InvalidRows m2_InvalidRows m3_InvalidRows m5_InvalidRows "ValueError.__new__")) (rB_InvalidRows : PySem.HandSPX.refsVE bm_InvalidRows = true)
    (sa_InvalidRows : PySem.W.findIn K (.ref C_InvalidRows) "__setattr__" = some (some (.builtin "object.__setattr__"))) (ga_InvalidRows : PySem.W.findIn K (.ref C_InvalidRows) "__getattribute__" = some (some (.builtin "BaseException.__getattribute__"))) (gg_InvalidRows : PySem.W.findIn K (.ref C_InvalidRows) "__getattr__" = some none) (nb_InvalidRows : PySem.W.findIn K (.ref C_InvalidRows) "value" = some none)
    (t1_InvalidRows : PySem.W.typeIn K (.ref f12) = some (.type "function")) (kC_InvalidRows : PySem.W.keepIn K (.ref C_InvalidRows) = true) (eC_InvalidRows : PySem.W.subIn K (.ref C_InvalidRows) (.type "BaseException") = some true) (tC_InvalidRows : PySem.W.typeIn K (.ref C_InvalidRows) = some (.type "type")) (hC_InvalidRows : PySem.W.hasDictIn K C_InvalidRows = true)
    (g_InvalidSession : PySem.W.nsIn K mainGlobals "InvalidSession" = some (some (.ref C_InvalidSession)))
    {nm_InvalidSession qn_InvalidSession : Str} {N_InvalidSession : Addr} {bs_InvalidSession bm_InvalidSession : List Value} {sn_InvalidSession : List Str} {sub_InvalidSession : List Value} {ab_InvalidSession : Bool} {col_InvalidSession : Option Bool} {dd_InvalidSession : Option Addr} {m0_InvalidSession m1_InvalidSession m2_InvalidSession m3_InvalidSession m5_InvalidSession : Option Value}
    (xL_InvalidSession : K.lookup C_InvalidSession = some (excClassObj nm_InvalidSession qn_InvalidSession C_InvalidSession N_InvalidSession bs_InvalidSession bm_InvalidSession true sn_InvalidSession sub_InvalidSession ab_InvalidSession col_InvalidSession dd_InvalidSession m0_InvalidSession m1_InvalidSession m2_InvalidSession m3_InvalidSession m5_InvalidSession "ValueError.__new__")) (rB_InvalidSession : PySem.HandSPX.refsVE bm_InvalidSession = true)
    (sa_InvalidSession : PySem.W.findIn K (.ref C_InvalidSession) "__setattr__" = some (some (.builtin "object.__setattr__"))) (ga_InvalidSession : PySem.W.findIn K (.ref C_InvalidSession) "__getattribute__" = some (some (.builtin "BaseException.__getattribute__"))) (gg_InvalidSession : PySem.W.findIn K (.ref C_InvalidSession) "__getattr__" = some none) (nb_InvalidSession : PySem.W.findIn K (.ref C_InvalidSession) "value" = some none)
    (t1_InvalidSession : PySem.W.typeIn K (.ref f13) = some (.type "function")) (kC_InvalidSession : PySem.W.keepIn K (.ref C_InvalidSession) = true) (eC_InvalidSession : PySem.W.subIn K (.ref C_InvalidSession) (.type "BaseException") = some true) (tC_InvalidSession : PySem.W.typeIn K (.ref C_InvalidSession) = some (.type "type")) (hC_InvalidSession : PySem.W.hasDictIn K C_InvalidSession = true)
    (g_InvalidNumber : PySem.W.nsIn K mainGlobals "InvalidNumber" = some (some (.ref C_InvalidNumber)))
    {nm_InvalidNumber qn_InvalidNumber : Str} {N_InvalidNumber : Addr} {bs_InvalidNumber bm_InvalidNumber : List Value} {sn_InvalidNumber : List Str} {sub_InvalidNumber : List Value} {ab_InvalidNumber : Bool} {col_InvalidNumber : Option Bool} {dd_InvalidNumber : Option Addr} {m0_InvalidNumber m1_InvalidNumber m2_InvalidNumber m3_InvalidNumber m5_InvalidNumber : Option Value}
    (xL_InvalidNumber : K.lookup C_InvalidNumber = some (excClassObj nm_InvalidNumber qn_InvalidNumber C_InvalidNumber N_InvalidNumber bs_InvalidNumber bm_InvalidNumber true sn_InvalidNumber sub_InvalidNumber ab_InvalidNumber col_InvalidNumber dd_InvalidNumber m0_InvalidNumber m1_InvalidNumber m2_InvalidNumber m3_InvalidNumber m5_InvalidNumber "ValueError.__new__")) (rB_InvalidNumber : PySem.HandSPX.refsVE bm_InvalidNumber = true)
    (sa_InvalidNumber : PySem.W.findIn K (.ref C_InvalidNumber) "__setattr__" = some (some (.builtin "object.__setattr__"))) (ga_InvalidNumber : PySem.W.findIn K (.ref C_InvalidNumber) "__getattribute__" = some (some (.builtin "BaseException.__getattribute__"))) (gg_InvalidNumber : PySem.W.findIn K (.ref C_InvalidNumber) "__getattr__" = some none) (nb_InvalidNumber : PySem.W.findIn K (.ref C_InvalidNumber) "value" = some none)
    (t1_InvalidNumber : PySem.W.typeIn K (.ref f14) = some (.type "function")) (kC_InvalidNumber : PySem.W.keepIn K (.ref C_InvalidNumber) = true) (eC_InvalidNumber : PySem.W.subIn K (.ref C_InvalidNumber) (.type "BaseException") = some true) (tC_InvalidNumber : PySem.W.typeIn K (.ref C_InvalidNumber) = some (.type "type")) (hC_InvalidNumber : PySem.W.hasDictIn K C_InvalidNumber = true)
    (g_InvalidWeaving : PySem.W.nsIn K mainGlobals "InvalidWeaving" = some (some (.ref C_InvalidWeaving)))
    {nm_InvalidWeaving qn_InvalidWeaving : Str} {N_InvalidWeaving : Addr} {bs_InvalidWeaving bm_InvalidWeaving : List Value} {sn_InvalidWeaving : List Str} {sub_InvalidWeaving : List Value} {ab_InvalidWeaving : Bool} {col_InvalidWeaving : Option Bool} {dd_InvalidWeaving : Option Addr} {m0_InvalidWeaving m1_InvalidWeaving m2_InvalidWeaving m3_InvalidWeaving m5_InvalidWeaving : Option Value}
    (xL_InvalidWeaving : K.lookup C_InvalidWeaving = some (excClassObj nm_InvalidWeaving qn_InvalidWeaving C_InvalidWeaving N_InvalidWeaving bs_InvalidWeaving bm_InvalidWeaving true sn_InvalidWeaving sub_InvalidWeaving ab_InvalidWeaving col_InvalidWeaving dd_InvalidWeaving m0_InvalidWeaving m1_InvalidWeaving m2_InvalidWeaving m3_InvalidWeaving m5_InvalidWeaving "ValueError.__new__")) (rB_InvalidWeaving : PySem.HandSPX.refsVE bm_InvalidWeaving = true)
    (sa_InvalidWeaving : PySem.W.findIn K (.ref C_InvalidWeaving) "__setattr__" = some (some (.builtin "object.__setattr__"))) (ga_InvalidWeaving : PySem.W.findIn K (.ref C_InvalidWeaving) "__getattribute__" = some (some (.builtin "BaseException.__getattribute__"))) (gg_InvalidWeaving : PySem.W.findIn K (.ref C_InvalidWeaving) "__getattr__" = some none) (nb_InvalidWeaving : PySem.W.findIn K (.ref C_InvalidWeaving) "value" = some none)
    (t1_InvalidWeaving : PySem.W.typeIn K (.ref f15) = some (.type "function")) (kC_InvalidWeaving : PySem.W.keepIn K (.ref C_InvalidWeaving) = true) (eC_InvalidWeaving : PySem.W.subIn K (.ref C_InvalidWeaving) (.type "BaseException") = some true) (tC_InvalidWeaving : PySem.W.typeIn K (.ref C_InvalidWeaving) = some (.type "type")) (hC_InvalidWeaving : PySem.W.hasDictIn K C_InvalidWeaving = true)
    (g_InvalidStore : PySem.W.nsIn K mainGlobals "InvalidStore" = some (some (.ref C_InvalidStore)))
    {nm_InvalidStore qn_InvalidStore : Str} {N_InvalidStore : Addr} {bs_InvalidStore bm_InvalidStore : List Value} {sn_InvalidStore : List Str} {sub_InvalidStore : List Value} {ab_InvalidStore : Bool} {col_InvalidStore : Option Bool} {dd_InvalidStore : Option Addr} {m0_InvalidStore m1_InvalidStore m2_InvalidStore m3_InvalidStore m5_InvalidStore : Option Value}
    (xL_InvalidStore : K.lookup C_InvalidStore = some (excClassObj nm_InvalidStore qn_InvalidStore C_InvalidStore N_InvalidStore bs_InvalidStore bm_InvalidStore true sn_InvalidStore sub_InvalidStore ab_InvalidStore col_InvalidStore dd_InvalidStore m0_InvalidStore m1_InvalidStore m2_InvalidStore m3_InvalidStore m5_InvalidStore "ValueError.__new__")) (rB_InvalidStore : PySem.HandSPX.refsVE bm_InvalidStore = true)
    (sa_InvalidStore : PySem.W.findIn K (.ref C_InvalidStore) "__setattr__" = some (some (.builtin "object.__setattr__"))) (ga_InvalidStore : PySem.W.findIn K (.ref C_InvalidStore) "__getattribute__" = some (some (.builtin "BaseException.__getattribute__"))) (gg_InvalidStore : PySem.W.findIn K (.ref C_InvalidStore) "__getattr__" = some none) (nb_InvalidStore : PySem.W.findIn K (.ref C_InvalidStore) "value" = some none)
    (t1_InvalidStore : PySem.W.typeIn K (.ref f16) = some (.type "function")) (kC_InvalidStore : PySem.W.keepIn K (.ref C_InvalidStore) = true) (eC_InvalidStore : PySem.W.subIn K (.ref C_InvalidStore) (.type "BaseException") = some true) (tC_InvalidStore : PySem.W.typeIn K (.ref C_InvalidStore) = some (.type "type")) (hC_InvalidStore : PySem.W.hasDictIn K C_InvalidStore = true)
    (g_InvalidScene : PySem.W.nsIn K mainGlobals "InvalidScene" = some (some (.ref C_InvalidScene)))
    {nm_InvalidScene qn_InvalidScene : Str} {N_InvalidScene : Addr} {bs_InvalidScene bm_InvalidScene : List Value} {sn_InvalidScene : List Str} {sub_InvalidScene : List Value} {ab_InvalidScene : Bool} {col_InvalidScene : Option Bool} {dd_InvalidScene : Option Addr} {m0_InvalidScene m1_InvalidScene m2_InvalidScene m3_InvalidScene m5_InvalidScene : Option Value}
    (xL_InvalidScene : K.lookup C_InvalidScene = some (excClassObj nm_InvalidScene qn_InvalidScene C_InvalidScene N_InvalidScene bs_InvalidScene bm_InvalidScene true sn_InvalidScene sub_InvalidScene ab_InvalidScene col_InvalidScene dd_InvalidScene m0_InvalidScene m1_InvalidScene m2_InvalidScene m3_InvalidScene m5_InvalidScene "ValueError.__new__")) (rB_InvalidScene : PySem.HandSPX.refsVE bm_InvalidScene = true)
    (sa_InvalidScene : PySem.W.findIn K (.ref C_InvalidScene) "__setattr__" = some (some (.builtin "object.__setattr__"))) (ga_InvalidScene : PySem.W.findIn K (.ref C_InvalidScene) "__getattribute__" = some (some (.builtin "BaseException.__getattribute__"))) (gg_InvalidScene : PySem.W.findIn K (.ref C_InvalidScene) "__getattr__" = some none) (nb_InvalidScene : PySem.W.findIn K (.ref C_InvalidScene) "value" = some none)
    (t1_InvalidScene : PySem.W.typeIn K (.ref f17) = some (.type "function")) (kC_InvalidScene : PySem.W.keepIn K (.ref C_InvalidScene) = true) (eC_InvalidScene : PySem.W.subIn K (.ref C_InvalidScene) (.type "BaseException") = some true) (tC_InvalidScene : PySem.W.typeIn K (.ref C_InvalidScene) = some (.type "type")) (hC_InvalidScene : PySem.W.hasDictIn K C_InvalidScene = true)
    (g_InvalidLog : PySem.W.nsIn K mainGlobals "InvalidLog" = some (some (.ref C_InvalidLog)))
    {nm_InvalidLog qn_InvalidLog : Str} {N_InvalidLog : Addr} {bs_InvalidLog bm_InvalidLog : List Value} {sn_InvalidLog : List Str} {sub_InvalidLog : List Value} {ab_InvalidLog : Bool} {col_InvalidLog : Option Bool} {dd_InvalidLog : Option Addr} {m0_InvalidLog m1_InvalidLog m2_InvalidLog m3_InvalidLog m5_InvalidLog : Option Value}
    (xL_InvalidLog : K.lookup C_InvalidLog = some (excClassObj nm_InvalidLog qn_InvalidLog C_InvalidLog N_InvalidLog bs_InvalidLog bm_InvalidLog true sn_InvalidLog sub_InvalidLog ab_InvalidLog col_InvalidLog dd_InvalidLog m0_InvalidLog m1_InvalidLog m2_InvalidLog m3_InvalidLog m5_InvalidLog "ValueError.__new__")) (rB_InvalidLog : PySem.HandSPX.refsVE bm_InvalidLog = true)
    (sa_InvalidLog : PySem.W.findIn K (.ref C_InvalidLog) "__setattr__" = some (some (.builtin "object.__setattr__"))) (ga_InvalidLog : PySem.W.findIn K (.ref C_InvalidLog) "__getattribute__" = some (some (.builtin "BaseException.__getattribute__"))) (gg_InvalidLog : PySem.W.findIn K (.ref C_InvalidLog) "__getattr__" = some none) (nb_InvalidLog : PySem.W.findIn K (.ref C_InvalidLog) "value" = some none)
    (t1_InvalidLog : PySem.W.typeIn K (.ref f18) = some (.type "function")) (kC_InvalidLog : PySem.W.keepIn K (.ref C_InvalidLog) = true) (eC_InvalidLog : PySem.W.subIn K (.ref C_InvalidLog) (.type "BaseException") = some true) (tC_InvalidLog : PySem.W.typeIn K (.ref C_InvalidLog) = some (.type "type")) (hC_InvalidLog : PySem.W.hasDictIn K C_InvalidLog = true)
    (g_InvalidText : PySem.W.nsIn K mainGlobals "InvalidText" = some (some (.ref C_InvalidText)))
    {nm_InvalidText qn_InvalidText : Str} {N_InvalidText : Addr} {bs_InvalidText bm_InvalidText : List Value} {sn_InvalidText : List Str} {sub_InvalidText : List Value} {ab_InvalidText : Bool} {col_InvalidText : Option Bool} {dd_InvalidText : Option Addr} {m0_InvalidText m1_InvalidText m2_InvalidText m3_InvalidText m5_InvalidText : Option Value}
    (xL_InvalidText : K.lookup C_InvalidText = some (excClassObj nm_InvalidText qn_InvalidText C_InvalidText N_InvalidText bs_InvalidText bm_InvalidText true sn_InvalidText sub_InvalidText ab_InvalidText col_InvalidText dd_InvalidText m0_InvalidText m1_InvalidText m2_InvalidText m3_InvalidText m5_InvalidText "ValueError.__new__")) (rB_InvalidText : PySem.HandSPX.refsVE bm_InvalidText = true)
    (sa_InvalidText : PySem.W.findIn K (.ref C_InvalidText) "__setattr__" = some (some (.builtin "object.__setattr__"))) (ga_InvalidText : PySem.W.findIn K (.ref C_InvalidText) "__getattribute__" = some (some (.builtin "BaseException.__getattribute__"))) (gg_InvalidText : PySem.W.findIn K (.ref C_InvalidText) "__getattr__" = some none) (nb_InvalidText : PySem.W.findIn K (.ref C_InvalidText) "value" = some none)
    (t1_InvalidText : PySem.W.typeIn K (.ref f19) = some (.type "function")) (kC_InvalidText : PySem.W.keepIn K (.ref C_InvalidText) = true) (eC_InvalidText : PySem.W.subIn K (.ref C_InvalidText) (.type "BaseException") = some true) (tC_InvalidText : PySem.W.typeIn K (.ref C_InvalidText) = some (.type "type")) (hC_InvalidText : PySem.W.hasDictIn K C_InvalidText = true)
    (g_InvalidCommand : PySem.W.nsIn K mainGlobals "InvalidCommand" = some (some (.ref C_InvalidCommand)))
    {nm_InvalidCommand qn_InvalidCommand : Str} {N_InvalidCommand : Addr} {bs_InvalidCommand bm_InvalidCommand : List Value} {sn_InvalidCommand : List Str} {sub_InvalidCommand : List Value} {ab_InvalidCommand : Bool} {col_InvalidCommand : Option Bool} {dd_InvalidCommand : Option Addr} {m0_InvalidCommand m1_InvalidCommand m2_InvalidCommand m3_InvalidCommand m5_InvalidCommand : Option Value}
    (xL_InvalidCommand : K.lookup C_InvalidCommand = some (excClassObj nm_InvalidCommand qn_InvalidCommand C_InvalidCommand N_InvalidCommand bs_InvalidCommand bm_InvalidCommand true sn_InvalidCommand sub_InvalidCommand ab_InvalidCommand col_InvalidCommand dd_InvalidCommand m0_InvalidCommand m1_InvalidCommand m2_InvalidCommand m3_InvalidCommand m5_InvalidCommand "ValueError.__new__")) (rB_InvalidCommand : PySem.HandSPX.refsVE bm_InvalidCommand = true)
    (sa_InvalidCommand : PySem.W.findIn K (.ref C_InvalidCommand) "__setattr__" = some (some (.builtin "object.__setattr__"))) (ga_InvalidCommand : PySem.W.findIn K (.ref C_InvalidCommand) "__getattribute__" = some (some (.builtin "BaseException.__getattribute__"))) (gg_InvalidCommand : PySem.W.findIn K (.ref C_InvalidCommand) "__getattr__" = some none) (nb_InvalidCommand : PySem.W.findIn K (.ref C_InvalidCommand) "value" = some none)
    (t1_InvalidCommand : PySem.W.typeIn K (.ref f20) = some (.type "function")) (kC_InvalidCommand : PySem.W.keepIn K (.ref C_InvalidCommand) = true) (eC_InvalidCommand : PySem.W.subIn K (.ref C_InvalidCommand) (.type "BaseException") = some true) (tC_InvalidCommand : PySem.W.typeIn K (.ref C_InvalidCommand) = some (.type "type")) (hC_InvalidCommand : PySem.W.hasDictIn K C_InvalidCommand = true)
    (g_Duplicate : PySem.W.nsIn K mainGlobals "Duplicate" = some (some (.ref C_Duplicate)))
    {nm_Duplicate qn_Duplicate : Str} {N_Duplicate : Addr} {bs_Duplicate bm_Duplicate : List Value} {sn_Duplicate : List Str} {sub_Duplicate : List Value} {ab_Duplicate : Bool} {col_Duplicate : Option Bool} {dd_Duplicate : Option Addr} {m0_Duplicate m1_Duplicate m2_Duplicate m3_Duplicate m5_Duplicate : Option Value}
    (xL_Duplicate : K.lookup C_Duplicate = some (excClassObj nm_Duplicate qn_Duplicate C_Duplicate N_Duplicate bs_Duplicate bm_Duplicate true sn_Duplicate sub_Duplicate ab_Duplicate col_Duplicate dd_Duplicate m0_Duplicate m1_Duplicate m2_Duplicate m3_Duplicate m5_Duplicate "ValueError.__new__")) (rB_Duplicate : PySem.HandSPX.refsVE bm_Duplicate = true)
    (sa_Duplicate : PySem.W.findIn K (.ref C_Duplicate) "__setattr__" = some (some (.builtin "object.__setattr__"))) (ga_Duplicate : PySem.W.findIn K (.ref C_Duplicate) "__getattribute__" = some (some (.builtin "BaseException.__getattribute__"))) (gg_Duplicate : PySem.W.findIn K (.ref C_Duplicate) "__getattr__" = some none) (nb_Duplicate : PySem.W.findIn K (.ref C_Duplicate) "name" = some none)
    (t1_Duplicate : PySem.W.typeIn K (.ref f21) = some (.type "function")) (kC_Duplicate : PySem.W.keepIn K (.ref C_Duplicate) = true) (eC_Duplicate : PySem.W.subIn K (.ref C_Duplicate) (.type "BaseException") = some true) (tC_Duplicate : PySem.W.typeIn K (.ref C_Duplicate) = some (.type "type")) (hC_Duplicate : PySem.W.hasDictIn K C_Duplicate = true)
    (g_UnknownPart : PySem.W.nsIn K mainGlobals "UnknownPart" = some (some (.ref C_UnknownPart)))
    {nm_UnknownPart qn_UnknownPart : Str} {N_UnknownPart : Addr} {bs_UnknownPart bm_UnknownPart : List Value} {sn_UnknownPart : List Str} {sub_UnknownPart : List Value} {ab_UnknownPart : Bool} {col_UnknownPart : Option Bool} {dd_UnknownPart : Option Addr} {m0_UnknownPart m1_UnknownPart m2_UnknownPart m3_UnknownPart m5_UnknownPart : Option Value}
    (xL_UnknownPart : K.lookup C_UnknownPart = some (excClassObj nm_UnknownPart qn_UnknownPart C_UnknownPart N_UnknownPart bs_UnknownPart bm_UnknownPart true sn_UnknownPart sub_UnknownPart ab_UnknownPart col_UnknownPart dd_UnknownPart m0_UnknownPart m1_UnknownPart m2_UnknownPart m3_UnknownPart m5_UnknownPart "ValueError.__new__")) (rB_UnknownPart : PySem.HandSPX.refsVE bm_UnknownPart = true)
    (sa_UnknownPart : PySem.W.findIn K (.ref C_UnknownPart) "__setattr__" = some (some (.builtin "object.__setattr__"))) (ga_UnknownPart : PySem.W.findIn K (.ref C_UnknownPart) "__getattribute__" = some (some (.builtin "BaseException.__getattribute__"))) (gg_UnknownPart : PySem.W.findIn K (.ref C_UnknownPart) "__getattr__" = some none) (nb_UnknownPart : PySem.W.findIn K (.ref C_UnknownPart) "name" = some none)
    (t1_UnknownPart : PySem.W.typeIn K (.ref f22) = some (.type "function")) (kC_UnknownPart : PySem.W.keepIn K (.ref C_UnknownPart) = true) (eC_UnknownPart : PySem.W.subIn K (.ref C_UnknownPart) (.type "BaseException") = some true) (tC_UnknownPart : PySem.W.typeIn K (.ref C_UnknownPart) = some (.type "type")) (hC_UnknownPart : PySem.W.hasDictIn K C_UnknownPart = true)
    (g_UnknownMode : PySem.W.nsIn K mainGlobals "UnknownMode" = some (some (.ref C_UnknownMode)))
    {nm_UnknownMode qn_UnknownMode : Str} {N_UnknownMode : Addr} {bs_UnknownMode bm_UnknownMode : List Value} {sn_UnknownMode : List Str} {sub_UnknownMode : List Value} {ab_UnknownMode : Bool} {col_UnknownMode : Option Bool} {dd_UnknownMode : Option Addr} {m0_UnknownMode m1_UnknownMode m2_UnknownMode m3_UnknownMode m5_UnknownMode : Option Value}
    (xL_UnknownMode : K.lookup C_UnknownMode = some (excClassObj nm_UnknownMode qn_UnknownMode C_UnknownMode N_UnknownMode bs_UnknownMode bm_UnknownMode true sn_UnknownMode sub_UnknownMode ab_UnknownMode col_UnknownMode dd_UnknownMode m0_UnknownMode m1_UnknownMode m2_UnknownMode m3_UnknownMode m5_UnknownMode "ValueError.__new__")) (rB_UnknownMode : PySem.HandSPX.refsVE bm_UnknownMode = true)
    (sa_UnknownMode : PySem.W.findIn K (.ref C_UnknownMode) "__setattr__" = some (some (.builtin "object.__setattr__"))) (ga_UnknownMode : PySem.W.findIn K (.ref C_UnknownMode) "__getattribute__" = some (some (.builtin "BaseException.__getattribute__"))) (gg_UnknownMode : PySem.W.findIn K (.ref C_UnknownMode) "__getattr__" = some none) (nb_UnknownMode : PySem.W.findIn K (.ref C_UnknownMode) "name" = some none)
    (t1_UnknownMode : PySem.W.typeIn K (.ref f23) = some (.type "function")) (kC_UnknownMode : PySem.W.keepIn K (.ref C_UnknownMode) = true) (eC_UnknownMode : PySem.W.subIn K (.ref C_UnknownMode) (.type "BaseException") = some true) (tC_UnknownMode : PySem.W.typeIn K (.ref C_UnknownMode) = some (.type "type")) (hC_UnknownMode : PySem.W.hasDictIn K C_UnknownMode = true)
    (g_UnknownEntry : PySem.W.nsIn K mainGlobals "UnknownEntry" = some (some (.ref C_UnknownEntry)))
    {nm_UnknownEntry qn_UnknownEntry : Str} {N_UnknownEntry : Addr} {bs_UnknownEntry bm_UnknownEntry : List Value} {sn_UnknownEntry : List Str} {sub_UnknownEntry : List Value} {ab_UnknownEntry : Bool} {col_UnknownEntry : Option Bool} {dd_UnknownEntry : Option Addr} {m0_UnknownEntry m1_UnknownEntry m2_UnknownEntry m3_UnknownEntry m5_UnknownEntry : Option Value}
    (xL_UnknownEntry : K.lookup C_UnknownEntry = some (excClassObj nm_UnknownEntry qn_UnknownEntry C_UnknownEntry N_UnknownEntry bs_UnknownEntry bm_UnknownEntry true sn_UnknownEntry sub_UnknownEntry ab_UnknownEntry col_UnknownEntry dd_UnknownEntry m0_UnknownEntry m1_UnknownEntry m2_UnknownEntry m3_UnknownEntry m5_UnknownEntry "ValueError.__new__")) (rB_UnknownEntry : PySem.HandSPX.refsVE bm_UnknownEntry = true)
    (sa_UnknownEntry : PySem.W.findIn K (.ref C_UnknownEntry) "__setattr__" = some (some (.builtin "object.__setattr__"))) (ga_UnknownEntry : PySem.W.findIn K (.ref C_UnknownEntry) "__getattribute__" = some (some (.builtin "BaseException.__getattribute__"))) (gg_UnknownEntry : PySem.W.findIn K (.ref C_UnknownEntry) "__getattr__" = some none) (nb_UnknownEntry : PySem.W.findIn K (.ref C_UnknownEntry) "name" = some none)
    (t1_UnknownEntry : PySem.W.typeIn K (.ref f24) = some (.type "function")) (kC_UnknownEntry : PySem.W.keepIn K (.ref C_UnknownEntry) = true) (eC_UnknownEntry : PySem.W.subIn K (.ref C_UnknownEntry) (.type "BaseException") = some true) (tC_UnknownEntry : PySem.W.typeIn K (.ref C_UnknownEntry) = some (.type "type")) (hC_UnknownEntry : PySem.W.hasDictIn K C_UnknownEntry = true)
    (g_NameTaken : PySem.W.nsIn K mainGlobals "NameTaken" = some (some (.ref C_NameTaken)))
    {nm_NameTaken qn_NameTaken : Str} {N_NameTaken : Addr} {bs_NameTaken bm_NameTaken : List Value} {sn_NameTaken : List Str} {sub_NameTaken : List Value} {ab_NameTaken : Bool} {col_NameTaken : Option Bool} {dd_NameTaken : Option Addr} {m0_NameTaken m1_NameTaken m2_NameTaken m3_NameTaken m5_NameTaken : Option Value}
    (xL_NameTaken : K.lookup C_NameTaken = some (excClassObj nm_NameTaken qn_NameTaken C_NameTaken N_NameTaken bs_NameTaken bm_NameTaken true sn_NameTaken sub_NameTaken ab_NameTaken col_NameTaken dd_NameTaken m0_NameTaken m1_NameTaken m2_NameTaken m3_NameTaken m5_NameTaken "ValueError.__new__")) (rB_NameTaken : PySem.HandSPX.refsVE bm_NameTaken = true)
    (sa_NameTaken : PySem.W.findIn K (.ref C_NameTaken) "__setattr__" = some (some (.builtin "object.__setattr__"))) (ga_NameTaken : PySem.W.findIn K (.ref C_NameTaken) "__getattribute__" = some (some (.builtin "BaseException.__getattribute__"))) (gg_NameTaken : PySem.W.findIn K (.ref C_NameTaken) "__getattr__" = some none) (nb_NameTaken : PySem.W.findIn K (.ref C_NameTaken) "name" = some none)
    (t1_NameTaken : PySem.W.typeIn K (.ref f25) = some (.type "function")) (kC_NameTaken : PySem.W.keepIn K (.ref C_NameTaken) = true) (eC_NameTaken : PySem.W.subIn K (.ref C_NameTaken) (.type "BaseException") = some true) (tC_NameTaken : PySem.W.typeIn K (.ref C_NameTaken) = some (.type "type")) (hC_NameTaken : PySem.W.hasDictIn K C_NameTaken = true)
    (g_Overlap : PySem.W.nsIn K mainGlobals "Overlap" = some (some (.ref C_Overlap)))
    {nm_Overlap qn_Overlap : Str} {N_Overlap : Addr} {bs_Overlap bm_Overlap : List Value} {sn_Overlap : List Str} {sub_Overlap : List Value} {ab_Overlap : Bool} {col_Overlap : Option Bool} {dd_Overlap : Option Addr} {m0_Overlap m1_Overlap m2_Overlap m3_Overlap m5_Overlap : Option Value}
    (xL_Overlap : K.lookup C_Overlap = some (excClassObj nm_Overlap qn_Overlap C_Overlap N_Overlap bs_Overlap bm_Overlap true sn_Overlap sub_Overlap ab_Overlap col_Overlap dd_Overlap m0_Overlap m1_Overlap m2_Overlap m3_Overlap m5_Overlap "ValueError.__new__")) (rB_Overlap : PySem.HandSPX.refsVE bm_Overlap = true)
    (sa_Overlap : PySem.W.findIn K (.ref C_Overlap) "__setattr__" = some (some (.builtin "object.__setattr__"))) (ga_Overlap : PySem.W.findIn K (.ref C_Overlap) "__getattribute__" = some (some (.builtin "BaseException.__getattribute__"))) (gg_Overlap : PySem.W.findIn K (.ref C_Overlap) "__getattr__" = some none) (nb_Overlap : PySem.W.findIn K (.ref C_Overlap) "name" = some none)
    (t1_Overlap : PySem.W.typeIn K (.ref f26) = some (.type "function")) (kC_Overlap : PySem.W.keepIn K (.ref C_Overlap) = true) (eC_Overlap : PySem.W.subIn K (.ref C_Overlap) (.type "BaseException") = some true) (tC_Overlap : PySem.W.typeIn K (.ref C_Overlap) = some (.type "type")) (hC_Overlap : PySem.W.hasDictIn K C_Overlap = true)
    (g_NotInside : PySem.W.nsIn K mainGlobals "NotInside" = some (some (.ref C_NotInside)))
    {nm_NotInside qn_NotInside : Str} {N_NotInside : Addr} {bs_NotInside bm_NotInside : List Value} {sn_NotInside : List Str} {sub_NotInside : List Value} {ab_NotInside : Bool} {col_NotInside : Option Bool} {dd_NotInside : Option Addr} {m0_NotInside m1_NotInside m2_NotInside m3_NotInside m5_NotInside : Option Value}
    (xL_NotInside : K.lookup C_NotInside = some (excClassObj nm_NotInside qn_NotInside C_NotInside N_NotInside bs_NotInside bm_NotInside true sn_NotInside sub_NotInside ab_NotInside col_NotInside dd_NotInside m0_NotInside m1_NotInside m2_NotInside m3_NotInside m5_NotInside "ValueError.__new__")) (rB_NotInside : PySem.HandSPX.refsVE bm_NotInside = true)
    (sa_NotInside : PySem.W.findIn K (.ref C_NotInside) "__setattr__" = some (some (.builtin "object.__setattr__"))) (ga_NotInside : PySem.W.findIn K (.ref C_NotInside) "__getattribute__" = some (some (.builtin "BaseException.__getattribute__"))) (gg_NotInside : PySem.W.findIn K (.ref C_NotInside) "__getattr__" = some none) (nb_NotInside : PySem.W.findIn K (.ref C_NotInside) "at" = some none)
    (t1_NotInside : PySem.W.typeIn K (.ref f27) = some (.type "function")) (kC_NotInside : PySem.W.keepIn K (.ref C_NotInside) = true) (eC_NotInside : PySem.W.subIn K (.ref C_NotInside) (.type "BaseException") = some true) (tC_NotInside : PySem.W.typeIn K (.ref C_NotInside) = some (.type "type")) (hC_NotInside : PySem.W.hasDictIn K C_NotInside = true)
    (g_NotNeighbours : PySem.W.nsIn K mainGlobals "NotNeighbours" = some (some (.ref C_NotNeighbours)))
    {nm_NotNeighbours qn_NotNeighbours : Str} {N_NotNeighbours : Addr} {bs_NotNeighbours bm_NotNeighbours : List Value} {sn_NotNeighbours : List Str} {sub_NotNeighbours : List Value} {ab_NotNeighbours : Bool} {col_NotNeighbours : Option Bool} {dd_NotNeighbours : Option Addr} {m0_NotNeighbours m1_NotNeighbours m2_NotNeighbours m3_NotNeighbours m5_NotNeighbours : Option Value}
    (xL_NotNeighbours : K.lookup C_NotNeighbours = some (excClassObj nm_NotNeighbours qn_NotNeighbours C_NotNeighbours N_NotNeighbours bs_NotNeighbours bm_NotNeighbours true sn_NotNeighbours sub_NotNeighbours ab_NotNeighbours col_NotNeighbours dd_NotNeighbours m0_NotNeighbours m1_NotNeighbours m2_NotNeighbours m3_NotNeighbours m5_NotNeighbours "ValueError.__new__")) (rB_NotNeighbours : PySem.HandSPX.refsVE bm_NotNeighbours = true)
    (sa_NotNeighbours : PySem.W.findIn K (.ref C_NotNeighbours) "__setattr__" = some (some (.builtin "object.__setattr__"))) (ga_NotNeighbours : PySem.W.findIn K (.ref C_NotNeighbours) "__getattribute__" = some (some (.builtin "BaseException.__getattribute__"))) (gg_NotNeighbours : PySem.W.findIn K (.ref C_NotNeighbours) "__getattr__" = some none) (nb_NotNeighbours : PySem.W.findIn K (.ref C_NotNeighbours) "name" = some none)
    (t1_NotNeighbours : PySem.W.typeIn K (.ref f28) = some (.type "function")) (kC_NotNeighbours : PySem.W.keepIn K (.ref C_NotNeighbours) = true) (eC_NotNeighbours : PySem.W.subIn K (.ref C_NotNeighbours) (.type "BaseException") = some true) (tC_NotNeighbours : PySem.W.typeIn K (.ref C_NotNeighbours) = some (.type "type")) (hC_NotNeighbours : PySem.W.hasDictIn K C_NotNeighbours = true)
    (g_NoProgram : PySem.W.nsIn K mainGlobals "NoProgram" = some (some (.ref C_NoProgram)))
    {nm_NoProgram qn_NoProgram : Str} {N_NoProgram : Addr} {bs_NoProgram bm_NoProgram : List Value} {sn_NoProgram : List Str} {sub_NoProgram : List Value} {ab_NoProgram : Bool} {col_NoProgram : Option Bool} {dd_NoProgram : Option Addr} {m0_NoProgram m1_NoProgram m2_NoProgram m3_NoProgram m5_NoProgram : Option Value}
    (xL_NoProgram : K.lookup C_NoProgram = some (excClassObj nm_NoProgram qn_NoProgram C_NoProgram N_NoProgram bs_NoProgram bm_NoProgram true sn_NoProgram sub_NoProgram ab_NoProgram col_NoProgram dd_NoProgram m0_NoProgram m1_NoProgram m2_NoProgram m3_NoProgram m5_NoProgram "ValueError.__new__")) (rB_NoProgram : PySem.HandSPX.refsVE bm_NoProgram = true)
    (sa_NoProgram : PySem.W.findIn K (.ref C_NoProgram) "__setattr__" = some (some (.builtin "object.__setattr__"))) (ga_NoProgram : PySem.W.findIn K (.ref C_NoProgram) "__getattribute__" = some (some (.builtin "BaseException.__getattribute__"))) (gg_NoProgram : PySem.W.findIn K (.ref C_NoProgram) "__getattr__" = some none) (nb_NoProgram : PySem.W.findIn K (.ref C_NoProgram) "kind" = some none)
    (t1_NoProgram : PySem.W.typeIn K (.ref f29) = some (.type "function")) (kC_NoProgram : PySem.W.keepIn K (.ref C_NoProgram) = true) (eC_NoProgram : PySem.W.subIn K (.ref C_NoProgram) (.type "BaseException") = some true) (tC_NoProgram : PySem.W.typeIn K (.ref C_NoProgram) = some (.type "type")) (hC_NoProgram : PySem.W.hasDictIn K C_NoProgram = true)
    (g_TooMany : PySem.W.nsIn K mainGlobals "TooMany" = some (some (.ref C_TooMany)))
    {nm_TooMany qn_TooMany : Str} {N_TooMany : Addr} {bs_TooMany bm_TooMany : List Value} {sn_TooMany : List Str} {sub_TooMany : List Value} {ab_TooMany : Bool} {col_TooMany : Option Bool} {dd_TooMany : Option Addr} {m0_TooMany m1_TooMany m2_TooMany m3_TooMany m5_TooMany : Option Value}
    (xL_TooMany : K.lookup C_TooMany = some (excClassObj nm_TooMany qn_TooMany C_TooMany N_TooMany bs_TooMany bm_TooMany true sn_TooMany sub_TooMany ab_TooMany col_TooMany dd_TooMany m0_TooMany m1_TooMany m2_TooMany m3_TooMany m5_TooMany "ValueError.__new__")) (rB_TooMany : PySem.HandSPX.refsVE bm_TooMany = true)
    (sa_TooMany : PySem.W.findIn K (.ref C_TooMany) "__setattr__" = some (some (.builtin "object.__setattr__"))) (ga_TooMany : PySem.W.findIn K (.ref C_TooMany) "__getattribute__" = some (some (.builtin "BaseException.__getattribute__"))) (gg_TooMany : PySem.W.findIn K (.ref C_TooMany) "__getattr__" = some none) (nb_TooMany : PySem.W.findIn K (.ref C_TooMany) "bound" = some none)
    (t1_TooMany : PySem.W.typeIn K (.ref f30) = some (.type "function")) (kC_TooMany : PySem.W.keepIn K (.ref C_TooMany) = true) (eC_TooMany : PySem.W.subIn K (.ref C_TooMany) (.type "BaseException") = some true) (tC_TooMany : PySem.W.typeIn K (.ref C_TooMany) = some (.type "type")) (hC_TooMany : PySem.W.hasDictIn K C_TooMany = true)
    (g_Ended : PySem.W.nsIn K mainGlobals "Ended" = some (some (.ref C_Ended)))
    {nm_Ended qn_Ended : Str} {N_Ended : Addr} {bs_Ended bm_Ended : List Value} {sn_Ended : List Str} {sub_Ended : List Value} {ab_Ended : Bool} {col_Ended : Option Bool} {dd_Ended : Option Addr} {m0_Ended m1_Ended m2_Ended m3_Ended m5_Ended : Option Value}
    (xL_Ended : K.lookup C_Ended = some (excClassObj nm_Ended qn_Ended C_Ended N_Ended bs_Ended bm_Ended true sn_Ended sub_Ended ab_Ended col_Ended dd_Ended m0_Ended m1_Ended m2_Ended m3_Ended m5_Ended "ValueError.__new__")) (rB_Ended : PySem.HandSPX.refsVE bm_Ended = true)
    (sa_Ended : PySem.W.findIn K (.ref C_Ended) "__setattr__" = some (some (.builtin "object.__setattr__"))) (ga_Ended : PySem.W.findIn K (.ref C_Ended) "__getattribute__" = some (some (.builtin "BaseException.__getattribute__"))) (gg_Ended : PySem.W.findIn K (.ref C_Ended) "__getattr__" = some none) (nb_Ended : PySem.W.findIn K (.ref C_Ended) "number" = some none)
    (t1_Ended : PySem.W.typeIn K (.ref f31) = some (.type "function")) (kC_Ended : PySem.W.keepIn K (.ref C_Ended) = true) (eC_Ended : PySem.W.subIn K (.ref C_Ended) (.type "BaseException") = some true) (tC_Ended : PySem.W.typeIn K (.ref C_Ended) = some (.type "type")) (hC_Ended : PySem.W.hasDictIn K C_Ended = true)
    (g_Waiting : PySem.W.nsIn K mainGlobals "Waiting" = some (some (.ref C_Waiting)))
    {nm_Waiting qn_Waiting : Str} {N_Waiting : Addr} {bs_Waiting bm_Waiting : List Value} {sn_Waiting : List Str} {sub_Waiting : List Value} {ab_Waiting : Bool} {col_Waiting : Option Bool} {dd_Waiting : Option Addr} {m0_Waiting m1_Waiting m2_Waiting m3_Waiting m5_Waiting : Option Value}
    (xL_Waiting : K.lookup C_Waiting = some (excClassObj nm_Waiting qn_Waiting C_Waiting N_Waiting bs_Waiting bm_Waiting true sn_Waiting sub_Waiting ab_Waiting col_Waiting dd_Waiting m0_Waiting m1_Waiting m2_Waiting m3_Waiting m5_Waiting "ValueError.__new__")) (rB_Waiting : PySem.HandSPX.refsVE bm_Waiting = true)
    (sa_Waiting : PySem.W.findIn K (.ref C_Waiting) "__setattr__" = some (some (.builtin "object.__setattr__"))) (ga_Waiting : PySem.W.findIn K (.ref C_Waiting) "__getattribute__" = some (some (.builtin "BaseException.__getattribute__"))) (gg_Waiting : PySem.W.findIn K (.ref C_Waiting) "__getattr__" = some none) (nb_Waiting : PySem.W.findIn K (.ref C_Waiting) "number" = some none)
    (t1_Waiting : PySem.W.typeIn K (.ref f32) = some (.type "function")) (kC_Waiting : PySem.W.keepIn K (.ref C_Waiting) = true) (eC_Waiting : PySem.W.subIn K (.ref C_Waiting) (.type "BaseException") = some true) (tC_Waiting : PySem.W.typeIn K (.ref C_Waiting) = some (.type "type")) (hC_Waiting : PySem.W.hasDictIn K C_Waiting = true)
    (g_NothingBad : PySem.W.nsIn K mainGlobals "NothingBad" = some (some (.ref C_NothingBad)))
    (g_NotRight : PySem.W.nsIn K mainGlobals "NotRight" = some (some (.ref C_NotRight)))
    (g_NoStore : PySem.W.nsIn K mainGlobals "NoStore" = some (some (.ref C_NoStore)))
    (g_NothingToUndo : PySem.W.nsIn K mainGlobals "NothingToUndo" = some (some (.ref C_NothingToUndo)))
    (g_NothingToRedo : PySem.W.nsIn K mainGlobals "NothingToRedo" = some (some (.ref C_NothingToRedo)))
    (q_PartsError : PySem.W.excIn K C_PartsError [.type "ValueError", .type "Exception", .type "BaseException", .type "object"] "ValueError.__new__" = true) (kp_PartsError : PySem.W.keepIn K (.ref C_PartsError) = true)
    (q_NothingBad : PySem.W.excIn K C_NothingBad [.type "ValueError", .type "Exception", .type "BaseException", .type "object"] "ValueError.__new__" = true) (kp_NothingBad : PySem.W.keepIn K (.ref C_NothingBad) = true)
    (q_NotRight : PySem.W.excIn K C_NotRight [.type "ValueError", .type "Exception", .type "BaseException", .type "object"] "ValueError.__new__" = true) (kp_NotRight : PySem.W.keepIn K (.ref C_NotRight) = true)
    (q_NoStore : PySem.W.excIn K C_NoStore [.type "ValueError", .type "Exception", .type "BaseException", .type "object"] "ValueError.__new__" = true) (kp_NoStore : PySem.W.keepIn K (.ref C_NoStore) = true)
    (q_NothingToUndo : PySem.W.excIn K C_NothingToUndo [.type "ValueError", .type "Exception", .type "BaseException", .type "object"] "ValueError.__new__" = true) (kp_NothingToUndo : PySem.W.keepIn K (.ref C_NothingToUndo) = true)
    (q_NothingToRedo : PySem.W.excIn K C_NothingToRedo [.type "ValueError", .type "Exception", .type "BaseException", .type "object"] "ValueError.__new__" = true) (kp_NothingToRedo : PySem.W.keepIn K (.ref C_NothingToRedo) = true)
    (ke : kitsE K (C_PartsError :: [C_InvalidName, C_InvalidKey, C_InvalidSpan, C_InvalidSpans, C_InvalidCatalog, C_InvalidChange, C_InvalidModes, C_InvalidClash, C_InvalidStrengths, C_InvalidProgram, C_InvalidPrograms, C_InvalidProtocol, C_InvalidRows, C_InvalidSession, C_InvalidNumber, C_InvalidWeaving, C_InvalidStore, C_InvalidScene, C_InvalidLog, C_InvalidText, C_InvalidCommand, C_Duplicate, C_UnknownPart, C_UnknownMode, C_UnknownEntry, C_NameTaken, C_Overlap, C_NotInside, C_NotNeighbours, C_NoProgram, C_TooMany, C_Ended, C_Waiting, C_NothingBad, C_NotRight, C_NoStore, C_NothingToUndo, C_NothingToRedo]) = true)
    (tab : kitTab K [C_InvalidName, C_InvalidKey, C_InvalidSpan, C_InvalidSpans, C_InvalidCatalog, C_InvalidChange, C_InvalidModes, C_InvalidClash, C_InvalidStrengths, C_InvalidProgram, C_InvalidPrograms, C_InvalidProtocol, C_InvalidRows, C_InvalidSession, C_InvalidNumber, C_InvalidWeaving, C_InvalidStore, C_InvalidScene, C_InvalidLog, C_InvalidText, C_InvalidCommand, C_Duplicate, C_UnknownPart, C_UnknownMode, C_UnknownEntry, C_NameTaken, C_Overlap, C_NotInside, C_NotNeighbours, C_NoProgram, C_TooMany, C_Ended, C_Waiting, C_NothingBad, C_NotRight, C_NoStore, C_NothingToUndo, C_NothingToRedo] = true)
    (tabP : kitRow K C_PartsError [C_InvalidName, C_InvalidKey, C_InvalidSpan, C_InvalidSpans, C_InvalidCatalog, C_InvalidChange, C_InvalidModes, C_InvalidClash, C_InvalidStrengths, C_InvalidProgram, C_InvalidPrograms, C_InvalidProtocol, C_InvalidRows, C_InvalidSession, C_InvalidNumber, C_InvalidWeaving, C_InvalidStore, C_InvalidScene, C_InvalidLog, C_InvalidText, C_InvalidCommand, C_Duplicate, C_UnknownPart, C_UnknownMode, C_UnknownEntry, C_NameTaken, C_Overlap, C_NotInside, C_NotNeighbours, C_NoProgram, C_TooMany, C_Ended, C_Waiting, C_NothingBad, C_NotRight, C_NoStore, C_NothingToUndo, C_NothingToRedo] = true)
    (ups : kitUps K C_PartsError (C_PartsError :: [C_InvalidName, C_InvalidKey, C_InvalidSpan, C_InvalidSpans, C_InvalidCatalog, C_InvalidChange, C_InvalidModes, C_InvalidClash, C_InvalidStrengths, C_InvalidProgram, C_InvalidPrograms, C_InvalidProtocol, C_InvalidRows, C_InvalidSession, C_InvalidNumber, C_InvalidWeaving, C_InvalidStore, C_InvalidScene, C_InvalidLog, C_InvalidText, C_InvalidCommand, C_Duplicate, C_UnknownPart, C_UnknownMode, C_UnknownEntry, C_NameTaken, C_Overlap, C_NotInside, C_NotNeighbours, C_NoProgram, C_TooMany, C_Ended, C_Waiting, C_NothingBad, C_NotRight, C_NoStore, C_NothingToUndo, C_NothingToRedo]) = true)
    (z_len : PySem.W.nsIn K mainGlobals "len" = some none)
    (z_max : PySem.W.nsIn K mainGlobals "max" = some none)
    (z_isinstance : PySem.W.nsIn K mainGlobals "isinstance" = some none)
    (z_range : PySem.W.nsIn K mainGlobals "range" = some none)
    (z_ValueError : PySem.W.nsIn K mainGlobals "ValueError" = some none)
    (z_KeyError : PySem.W.nsIn K mainGlobals "KeyError" = some none)
    (z_IndexError : PySem.W.nsIn K mainGlobals "IndexError" = some none)
    (z_TypeError : PySem.W.nsIn K mainGlobals "TypeError" = some none)
    (z_min : PySem.W.nsIn K mainGlobals "min" = some none)
    (z_bool : PySem.W.nsIn K mainGlobals "bool" = some none)
    : ∃ fd : FuncData, (∀ (s : Shared) (v : Value), BindsTo s fd ⟨[v], []⟩ [("_law_script", v)]) ∧ ∀ base : Heap, K.In base → base.Ns mainGlobals mg → FnOk l.prog w K mg base CX0 4 fa fd ["_law_script"] (sp_law K) := by
  have e := hfa.symm.trans (PySem.W.mg_of X G a40)
  cases e
  let T : Txt K mg := {
    f_InvalidName_init := f0, fd_InvalidName_init := _, F_InvalidName_init := fun_mk (st := s_InvalidName_init) l0 c0 k0, b_InvalidName_init := (fun_mk (st := s_InvalidName_init) l0 c0 k0).binds (ps := ["self", "value"]) fun _ _ _ _ _ _ us hl => match us, hl with | [_, _], _ => rfl,
    f_InvalidKey_init := f1, fd_InvalidKey_init := _, F_InvalidKey_init := fun_mk (st := s_InvalidKey_init) l1 c1 k1, b_InvalidKey_init := (fun_mk (st := s_InvalidKey_init) l1 c1 k1).binds (ps := ["self", "value"]) fun _ _ _ _ _ _ us hl => match us, hl with | [_, _], _ => rfl,
    f_InvalidSpan_init := f2, fd_InvalidSpan_init := _, F_InvalidSpan_init := fun_mk (st := s_InvalidSpan_init) l2 c2 k2, b_InvalidSpan_init := (fun_mk (st := s_InvalidSpan_init) l2 c2 k2).binds (ps := ["self", "value"]) fun _ _ _ _ _ _ us hl => match us, hl with | [_, _], _ => rfl,
    f_InvalidSpans_init := f3, fd_InvalidSpans_init := _, F_InvalidSpans_init := fun_mk (st := s_InvalidSpans_init) l3 c3 k3, b_InvalidSpans_init := (fun_mk (st := s_InvalidSpans_init) l3 c3 k3).binds (ps := ["self", "value"]) fun _ _ _ _ _ _ us hl => match us, hl with | [_, _], _ => rfl,
    f_InvalidCatalog_init := f4, fd_InvalidCatalog_init := _, F_InvalidCatalog_init := fun_mk (st := s_InvalidCatalog_init) l4 c4 k4, b_InvalidCatalog_init := (fun_mk (st := s_InvalidCatalog_init) l4 c4 k4).binds (ps := ["self", "value"]) fun _ _ _ _ _ _ us hl => match us, hl with | [_, _], _ => rfl,
    f_InvalidChange_init := f5, fd_InvalidChange_init := _, F_InvalidChange_init := fun_mk (st := s_InvalidChange_init) l5 c5 k5, b_InvalidChange_init := (fun_mk (st := s_InvalidChange_init) l5 c5 k5).binds (ps := ["self", "value"]) fun _ _ _ _ _ _ us hl => match us, hl with | [_, _], _ => rfl,
    f_InvalidModes_init := f6, fd_InvalidModes_init := _, F_InvalidModes_init := fun_mk (st := s_InvalidModes_init) l6 c6 k6, b_InvalidModes_init := (fun_mk (st := s_InvalidModes_init) l6 c6 k6).binds (ps := ["self", "value"]) fun _ _ _ _ _ _ us hl => match us, hl with | [_, _], _ => rfl,
    f_InvalidClash_init := f7, fd_InvalidClash_init := _, F_InvalidClash_init := fun_mk (st := s_InvalidClash_init) l7 c7 k7, b_InvalidClash_init := (fun_mk (st := s_InvalidClash_init) l7 c7 k7).binds (ps := ["self", "value"]) fun _ _ _ _ _ _ us hl => match us, hl with | [_, _], _ => rfl,
    f_InvalidStrengths_init := f8, fd_InvalidStrengths_init := _, F_InvalidStrengths_init := fun_mk (st := s_InvalidStrengths_init) l8 c8 k8, b_InvalidStrengths_init := (fun_mk (st := s_InvalidStrengths_init) l8 c8 k8).binds (ps := ["self", "value"]) fun _ _ _ _ _ _ us hl => match us, hl with | [_, _], _ => rfl,
    f_InvalidProgram_init := f9, fd_InvalidProgram_init := _, F_InvalidProgram_init := fun_mk (st := s_InvalidProgram_init) l9 c9 k9, b_InvalidProgram_init := (fun_mk (st := s_InvalidProgram_init) l9 c9 k9).binds (ps := ["self", "value"]) fun _ _ _ _ _ _ us hl => match us, hl with | [_, _], _ => rfl,
    f_InvalidPrograms_init := f10, fd_InvalidPrograms_init := _, F_InvalidPrograms_init := fun_mk (st := s_InvalidPrograms_init) l10 c10 k10, b_InvalidPrograms_init := (fun_mk (st := s_InvalidPrograms_init) l10 c10 k10).binds (ps := ["self", "value"]) fun _ _ _ _ _ _ us hl => match us, hl with | [_, _], _ => rfl,
    f_InvalidProtocol_init := f11, fd_InvalidProtocol_init := _, F_InvalidProtocol_init := fun_mk (st := s_InvalidProtocol_init) l11 c11 k11, b_InvalidProtocol_init := (fun_mk (st := s_InvalidProtocol_init) l11 c11 k11).binds (ps := ["self", "value"]) fun _ _ _ _ _ _ us hl => match us, hl with | [_, _], _ => rfl,
    f_InvalidRows_init := f12, fd_InvalidRows_init := _, F_InvalidRows_init := fun_mk (st := s_InvalidRows_init) l12 c12 k12, b_InvalidRows_init := (fun_mk (st := s_InvalidRows_init) l12 c12 k12).binds (ps := ["self", "value"]) fun _ _ _ _ _ _ us hl => match us, hl with | [_, _], _ => rfl,
    f_InvalidSession_init := f13, fd_InvalidSession_init := _, F_InvalidSession_init := fun_mk (st := s_InvalidSession_init) l13 c13 k13, b_InvalidSession_init := (fun_mk (st := s_InvalidSession_init) l13 c13 k13).binds (ps := ["self", "value"]) fun _ _ _ _ _ _ us hl => match us, hl with | [_, _], _ => rfl,
    f_InvalidNumber_init := f14, fd_InvalidNumber_init := _, F_InvalidNumber_init := fun_mk (st := s_InvalidNumber_init) l14 c14 k14, b_InvalidNumber_init := (fun_mk (st := s_InvalidNumber_init) l14 c14 k14).binds (ps := ["self", "value"]) fun _ _ _ _ _ _ us hl => match us, hl with | [_, _], _ => rfl,
    f_InvalidWeaving_init := f15, fd_InvalidWeaving_init := _, F_InvalidWeaving_init := fun_mk (st := s_InvalidWeaving_init) l15 c15 k15, b_InvalidWeaving_init := (fun_mk (st := s_InvalidWeaving_init) l15 c15 k15).binds (ps := ["self", "value"]) fun _ _ _ _ _ _ us hl => match us, hl with | [_, _], _ => rfl,
    f_InvalidStore_init := f16, fd_InvalidStore_init := _, F_InvalidStore_init := fun_mk (st := s_InvalidStore_init) l16 c16 k16, b_InvalidStore_init := (fun_mk (st := s_InvalidStore_init) l16 c16 k16).binds (ps := ["self", "value"]) fun _ _ _ _ _ _ us hl => match us, hl with | [_, _], _ => rfl,
    f_InvalidScene_init := f17, fd_InvalidScene_init := _, F_InvalidScene_init := fun_mk (st := s_InvalidScene_init) l17 c17 k17, b_InvalidScene_init := (fun_mk (st := s_InvalidScene_init) l17 c17 k17).binds (ps := ["self", "value"]) fun _ _ _ _ _ _ us hl => match us, hl with | [_, _], _ => rfl,
    f_InvalidLog_init := f18, fd_InvalidLog_init := _, F_InvalidLog_init := fun_mk (st := s_InvalidLog_init) l18 c18 k18, b_InvalidLog_init := (fun_mk (st := s_InvalidLog_init) l18 c18 k18).binds (ps := ["self", "value"]) fun _ _ _ _ _ _ us hl => match us, hl with | [_, _], _ => rfl,
    f_InvalidText_init := f19, fd_InvalidText_init := _, F_InvalidText_init := fun_mk (st := s_InvalidText_init) l19 c19 k19, b_InvalidText_init := (fun_mk (st := s_InvalidText_init) l19 c19 k19).binds (ps := ["self", "value"]) fun _ _ _ _ _ _ us hl => match us, hl with | [_, _], _ => rfl,
    f_InvalidCommand_init := f20, fd_InvalidCommand_init := _, F_InvalidCommand_init := fun_mk (st := s_InvalidCommand_init) l20 c20 k20, b_InvalidCommand_init := (fun_mk (st := s_InvalidCommand_init) l20 c20 k20).binds (ps := ["self", "value"]) fun _ _ _ _ _ _ us hl => match us, hl with | [_, _], _ => rfl,
    f_Duplicate_init := f21, fd_Duplicate_init := _, F_Duplicate_init := fun_mk (st := s_Duplicate_init) l21 c21 k21, b_Duplicate_init := (fun_mk (st := s_Duplicate_init) l21 c21 k21).binds (ps := ["self", "name"]) fun _ _ _ _ _ _ us hl => match us, hl with | [_, _], _ => rfl,
    f_UnknownPart_init := f22, fd_UnknownPart_init := _, F_UnknownPart_init := fun_mk (st := s_UnknownPart_init) l22 c22 k22, b_UnknownPart_init := (fun_mk (st := s_UnknownPart_init) l22 c22 k22).binds (ps := ["self", "name"]) fun _ _ _ _ _ _ us hl => match us, hl with | [_, _], _ => rfl,
    f_UnknownMode_init := f23, fd_UnknownMode_init := _, F_UnknownMode_init := fun_mk (st := s_UnknownMode_init) l23 c23 k23, b_UnknownMode_init := (fun_mk (st := s_UnknownMode_init) l23 c23 k23).binds (ps := ["self", "name"]) fun _ _ _ _ _ _ us hl => match us, hl with | [_, _], _ => rfl,
    f_UnknownEntry_init := f24, fd_UnknownEntry_init := _, F_UnknownEntry_init := fun_mk (st := s_UnknownEntry_init) l24 c24 k24, b_UnknownEntry_init := (fun_mk (st := s_UnknownEntry_init) l24 c24 k24).binds (ps := ["self", "name"]) fun _ _ _ _ _ _ us hl => match us, hl with | [_, _], _ => rfl,
    f_NameTaken_init := f25, fd_NameTaken_init := _, F_NameTaken_init := fun_mk (st := s_NameTaken_init) l25 c25 k25, b_NameTaken_init := (fun_mk (st := s_NameTaken_init) l25 c25 k25).binds (ps := ["self", "name"]) fun _ _ _ _ _ _ us hl => match us, hl with | [_, _], _ => rfl,
    f_Overlap_init := f26, fd_Overlap_init := _, F_Overlap_init := fun_mk (st := s_Overlap_init) l26 c26 k26, b_Overlap_init := (fun_mk (st := s_Overlap_init) l26 c26 k26).binds (ps := ["self", "name"]) fun _ _ _ _ _ _ us hl => match us, hl with | [_, _], _ => rfl,
    f_NotInside_init := f27, fd_NotInside_init := _, F_NotInside_init := fun_mk (st := s_NotInside_init) l27 c27 k27, b_NotInside_init := (fun_mk (st := s_NotInside_init) l27 c27 k27).binds (ps := ["self", "at"]) fun _ _ _ _ _ _ us hl => match us, hl with | [_, _], _ => rfl,
    f_NotNeighbours_init := f28, fd_NotNeighbours_init := _, F_NotNeighbours_init := fun_mk (st := s_NotNeighbours_init) l28 c28 k28, b_NotNeighbours_init := (fun_mk (st := s_NotNeighbours_init) l28 c28 k28).binds (ps := ["self", "name"]) fun _ _ _ _ _ _ us hl => match us, hl with | [_, _], _ => rfl,
    f_NoProgram_init := f29, fd_NoProgram_init := _, F_NoProgram_init := fun_mk (st := s_NoProgram_init) l29 c29 k29, b_NoProgram_init := (fun_mk (st := s_NoProgram_init) l29 c29 k29).binds (ps := ["self", "kind"]) fun _ _ _ _ _ _ us hl => match us, hl with | [_, _], _ => rfl,
    f_TooMany_init := f30, fd_TooMany_init := _, F_TooMany_init := fun_mk (st := s_TooMany_init) l30 c30 k30, b_TooMany_init := (fun_mk (st := s_TooMany_init) l30 c30 k30).binds (ps := ["self", "bound"]) fun _ _ _ _ _ _ us hl => match us, hl with | [_, _], _ => rfl,
    f_Ended_init := f31, fd_Ended_init := _, F_Ended_init := fun_mk (st := s_Ended_init) l31 c31 k31, b_Ended_init := (fun_mk (st := s_Ended_init) l31 c31 k31).binds (ps := ["self", "number"]) fun _ _ _ _ _ _ us hl => match us, hl with | [_, _], _ => rfl,
    f_Waiting_init := f32, fd_Waiting_init := _, F_Waiting_init := fun_mk (st := s_Waiting_init) l32 c32 k32, b_Waiting_init := (fun_mk (st := s_Waiting_init) l32 c32 k32).binds (ps := ["self", "number"]) fun _ _ _ _ _ _ us hl => match us, hl with | [_, _], _ => rfl,
    f_law_cell := f33, fd_law_cell := _, F_law_cell := fun_mk (st := s_law_cell) l33 c33 k33, b_law_cell := (fun_mk (st := s_law_cell) l33 c33 k33).binds (ps := ["_law_script", "_law_k"]) fun _ _ _ _ _ _ us hl => match us, hl with | [_, _], _ => rfl, m_law_cell := PySem.W.mg_of X G a33,
    f_law_box := f34, fd_law_box := _, F_law_box := fun_mk (st := s_law_box) l34 c34 k34, b_law_box := (fun_mk (st := s_law_box) l34 c34 k34).binds (ps := ["_law_cell_here"]) fun _ _ _ _ _ _ us hl => match us, hl with | [_], _ => rfl, m_law_box := PySem.W.mg_of X G a34,
    f_law_take := f35, fd_law_take := _, F_law_take := fun_mk (st := s_law_take) l35 c35 k35, b_law_take := (fun_mk (st := s_law_take) l35 c35 k35).binds (ps := ["_law_box_here", "_law_many"]) fun _ _ _ _ _ _ us hl => match us, hl with | [_, _], _ => rfl, m_law_take := PySem.W.mg_of X G a35,
    f_law_made := f36, fd_law_made := _, F_law_made := fun_mk (st := s_law_made) l36 c36 k36, b_law_made := (fun_mk (st := s_law_made) l36 c36 k36).binds (ps := ["_law_thing"]) fun _ _ _ _ _ _ us hl => match us, hl with | [_], _ => rfl, m_law_made := PySem.W.mg_of X G a36,
    f_law_classes := f37, fd_law_classes := _, F_law_classes := fun_mk (st := s_law_classes) l37 c37 k37, b_law_classes := (fun_mk (st := s_law_classes) l37 c37 k37).binds (ps := ["_law_error"]) fun _ _ _ _ _ _ us hl => match us, hl with | [_], _ => rfl, m_law_classes := PySem.W.mg_of X G a37,
    f_law_fields := f38, fd_law_fields := _, F_law_fields := fun_mk (st := s_law_fields) l38 c38 k38, b_law_fields := (fun_mk (st := s_law_fields) l38 c38 k38).binds (ps := ["_law_made_here"]) fun _ _ _ _ _ _ us hl => match us, hl with | [_], _ => rfl, m_law_fields := PySem.W.mg_of X G a38,
    f_law_under := f39, fd_law_under := _, F_law_under := fun_mk (st := s_law_under) l39 c39 k39, b_law_under := (fun_mk (st := s_law_under) l39 c39 k39).binds (ps := ["_law_error"]) fun _ _ _ _ _ _ us hl => match us, hl with | [_], _ => rfl, m_law_under := PySem.W.mg_of X G a39,
    f_law := fa, fd_law := _, F_law := fun_mk (st := s_law) l40 c40 k40, b_law := (fun_mk (st := s_law) l40 c40 k40).binds (ps := ["_law_script"]) fun _ _ _ _ _ _ us hl => match us, hl with | [_], _ => rfl, m_law := PySem.W.mg_of X G a40,
    C_PartsError := C_PartsError, g_PartsError := PySem.W.mg_of X G g_PartsError,
    C_InvalidName := C_InvalidName, g_InvalidName := PySem.W.mg_of X G g_InvalidName,
    x_InvalidName := ⟨⟨_, _, _, _, _, _, _, _, _, _, _, _, _, _, _, xL_InvalidName, rB_InvalidName⟩, sa_InvalidName, eC_InvalidName, tC_InvalidName, kC_InvalidName⟩, y_InvalidName := ⟨ga_InvalidName, gg_InvalidName, eC_InvalidName, hC_InvalidName⟩, n_InvalidName := nb_InvalidName, i_InvalidName := a0, t_InvalidName := t1_InvalidName,
    C_InvalidKey := C_InvalidKey, g_InvalidKey := PySem.W.mg_of X G g_InvalidKey,
    x_InvalidKey := ⟨⟨_, _, _, _, _, _, _, _, _, _, _, _, _, _, _, xL_InvalidKey, rB_InvalidKey⟩, sa_InvalidKey, eC_InvalidKey, tC_InvalidKey, kC_InvalidKey⟩, y_InvalidKey := ⟨ga_InvalidKey, gg_InvalidKey, eC_InvalidKey, hC_InvalidKey⟩, n_InvalidKey := nb_InvalidKey, i_InvalidKey := a1, t_InvalidKey := t1_InvalidKey,
    C_InvalidSpan := C_InvalidSpan, g_InvalidSpan := PySem.W.mg_of X G g_InvalidSpan,
    x_InvalidSpan := ⟨⟨_, _, _, _, _, _, _, _, _, _, _, _, _, _, _, xL_InvalidSpan, rB_InvalidSpan⟩, sa_InvalidSpan, eC_InvalidSpan, tC_InvalidSpan, kC_InvalidSpan⟩, y_InvalidSpan := ⟨ga_InvalidSpan, gg_InvalidSpan, eC_InvalidSpan, hC_InvalidSpan⟩, n_InvalidSpan := nb_InvalidSpan, i_InvalidSpan := a2, t_InvalidSpan := t1_InvalidSpan,
    C_InvalidSpans := C_InvalidSpans, g_InvalidSpans := PySem.W.mg_of X G g_InvalidSpans,
    x_InvalidSpans := ⟨⟨_, _, _, _, _, _, _, _, _, _, _, _, _, _, _, xL_InvalidSpans, rB_InvalidSpans⟩, sa_InvalidSpans, eC_InvalidSpans, tC_InvalidSpans, kC_InvalidSpans⟩, y_InvalidSpans := ⟨ga_InvalidSpans, gg_InvalidSpans, eC_InvalidSpans, hC_InvalidSpans⟩, n_InvalidSpans := nb_InvalidSpans, i_InvalidSpans := a3, t_InvalidSpans := t1_InvalidSpans,
    C_InvalidCatalog := C_InvalidCatalog, g_InvalidCatalog := PySem.W.mg_of X G g_InvalidCatalog,
    x_InvalidCatalog := ⟨⟨_, _, _, _, _, _, _, _, _, _, _, _, _, _, _, xL_InvalidCatalog, rB_InvalidCatalog⟩, sa_InvalidCatalog, eC_InvalidCatalog, tC_InvalidCatalog, kC_InvalidCatalog⟩, y_InvalidCatalog := ⟨ga_InvalidCatalog, gg_InvalidCatalog, eC_InvalidCatalog, hC_InvalidCatalog⟩, n_InvalidCatalog := nb_InvalidCatalog, i_InvalidCatalog := a4, t_InvalidCatalog := t1_InvalidCatalog,
    C_InvalidChange := C_InvalidChange, g_InvalidChange := PySem.W.mg_of X G g_InvalidChange,
    x_InvalidChange := ⟨⟨_, _, _, _, _, _, _, _, _, _, _, _, _, _, _, xL_InvalidChange, rB_InvalidChange⟩, sa_InvalidChange, eC_InvalidChange, tC_InvalidChange, kC_InvalidChange⟩, y_InvalidChange := ⟨ga_InvalidChange, gg_InvalidChange, eC_InvalidChange, hC_InvalidChange⟩, n_InvalidChange := nb_InvalidChange, i_InvalidChange := a5, t_InvalidChange := t1_InvalidChange,
    C_InvalidModes := C_InvalidModes, g_InvalidModes := PySem.W.mg_of X G g_InvalidModes,
    x_InvalidModes := ⟨⟨_, _, _, _, _, _, _, _, _, _, _, _, _, _, _, xL_InvalidModes, rB_InvalidModes⟩, sa_InvalidModes, eC_InvalidModes, tC_InvalidModes, kC_InvalidModes⟩, y_InvalidModes := ⟨ga_InvalidModes, gg_InvalidModes, eC_InvalidModes, hC_InvalidModes⟩, n_InvalidModes := nb_InvalidModes, i_InvalidModes := a6, t_InvalidModes := t1_InvalidModes,
    C_InvalidClash := C_InvalidClash, g_InvalidClash := PySem.W.mg_of X G g_InvalidClash,
    x_InvalidClash := ⟨⟨_, _, _, _, _, _, _, _, _, _, _, _, _, _, _, xL_InvalidClash, rB_InvalidClash⟩, sa_InvalidClash, eC_InvalidClash, tC_InvalidClash, kC_InvalidClash⟩, y_InvalidClash := ⟨ga_InvalidClash, gg_InvalidClash, eC_InvalidClash, hC_InvalidClash⟩, n_InvalidClash := nb_InvalidClash, i_InvalidClash := a7, t_InvalidClash := t1_InvalidClash,
    C_InvalidStrengths := C_InvalidStrengths, g_InvalidStrengths := PySem.W.mg_of X G g_InvalidStrengths,
    x_InvalidStrengths := ⟨⟨_, _, _, _, _, _, _, _, _, _, _, _, _, _, _, xL_InvalidStrengths, rB_InvalidStrengths⟩, sa_InvalidStrengths, eC_InvalidStrengths, tC_InvalidStrengths, kC_InvalidStrengths⟩, y_InvalidStrengths := ⟨ga_InvalidStrengths, gg_InvalidStrengths, eC_InvalidStrengths, hC_InvalidStrengths⟩, n_InvalidStrengths := nb_InvalidStrengths, i_InvalidStrengths := a8, t_InvalidStrengths := t1_InvalidStrengths,
    C_InvalidProgram := C_InvalidProgram, g_InvalidProgram := PySem.W.mg_of X G g_InvalidProgram,
    x_InvalidProgram := ⟨⟨_, _, _, _, _, _, _, _, _, _, _, _, _, _, _, xL_InvalidProgram, rB_InvalidProgram⟩, sa_InvalidProgram, eC_InvalidProgram, tC_InvalidProgram, kC_InvalidProgram⟩, y_InvalidProgram := ⟨ga_InvalidProgram, gg_InvalidProgram, eC_InvalidProgram, hC_InvalidProgram⟩, n_InvalidProgram := nb_InvalidProgram, i_InvalidProgram := a9, t_InvalidProgram := t1_InvalidProgram,
    C_InvalidPrograms := C_InvalidPrograms, g_InvalidPrograms := PySem.W.mg_of X G g_InvalidPrograms,
    x_InvalidPrograms := ⟨⟨_, _, _, _, _, _, _, _, _, _, _, _, _, _, _, xL_InvalidPrograms, rB_InvalidPrograms⟩, sa_InvalidPrograms, eC_InvalidPrograms, tC_InvalidPrograms, kC_InvalidPrograms⟩, y_InvalidPrograms := ⟨ga_InvalidPrograms, gg_InvalidPrograms, eC_InvalidPrograms, hC_InvalidPrograms⟩, n_InvalidPrograms := nb_InvalidPrograms, i_InvalidPrograms := a10, t_InvalidPrograms := t1_InvalidPrograms,
    C_InvalidProtocol := C_InvalidProtocol, g_InvalidProtocol := PySem.W.mg_of X G g_InvalidProtocol,
    x_InvalidProtocol := ⟨⟨_, _, _, _, _, _, _, _, _, _, _, _, _, _, _, xL_InvalidProtocol, rB_InvalidProtocol⟩, sa_InvalidProtocol, eC_InvalidProtocol, tC_InvalidProtocol, kC_InvalidProtocol⟩, y_InvalidProtocol := ⟨ga_InvalidProtocol, gg_InvalidProtocol, eC_InvalidProtocol, hC_InvalidProtocol⟩, n_InvalidProtocol := nb_InvalidProtocol, i_InvalidProtocol := a11, t_InvalidProtocol := t1_InvalidProtocol,
    C_InvalidRows := C_InvalidRows, g_InvalidRows := PySem.W.mg_of X G g_InvalidRows,
    x_InvalidRows := ⟨⟨_, _, _, _, _, _, _, _, _, _, _, _, _, _, _, xL_InvalidRows, rB_InvalidRows⟩, sa_InvalidRows, eC_InvalidRows, tC_InvalidRows, kC_InvalidRows⟩, y_InvalidRows := ⟨ga_InvalidRows, gg_InvalidRows, eC_InvalidRows, hC_InvalidRows⟩, n_InvalidRows := nb_InvalidRows, i_InvalidRows := a12, t_InvalidRows := t1_InvalidRows,
    C_InvalidSession := C_InvalidSession, g_InvalidSession := PySem.W.mg_of X G g_InvalidSession,
    x_InvalidSession := ⟨⟨_, _, _, _, _, _, _, _, _, _, _, _, _, _, _, xL_InvalidSession, rB_InvalidSession⟩, sa_InvalidSession, eC_InvalidSession, tC_InvalidSession, kC_InvalidSession⟩, y_InvalidSession := ⟨ga_InvalidSession, gg_InvalidSession, eC_InvalidSession, hC_InvalidSession⟩, n_InvalidSession := nb_InvalidSession, i_InvalidSession := a13, t_InvalidSession := t1_InvalidSession,
    C_InvalidNumber := C_InvalidNumber, g_InvalidNumber := PySem.W.mg_of X G g_InvalidNumber,
    x_InvalidNumber := ⟨⟨_, _, _, _, _, _, _, _, _, _, _, _, _, _, _, xL_InvalidNumber, rB_InvalidNumber⟩, sa_InvalidNumber, eC_InvalidNumber, tC_InvalidNumber, kC_InvalidNumber⟩, y_InvalidNumber := ⟨ga_InvalidNumber, gg_InvalidNumber, eC_InvalidNumber, hC_InvalidNumber⟩, n_InvalidNumber := nb_InvalidNumber, i_InvalidNumber := a14, t_InvalidNumber := t1_InvalidNumber,
    C_InvalidWeaving := C_InvalidWeaving, g_InvalidWeaving := PySem.W.mg_of X G g_InvalidWeaving,
    x_InvalidWeaving := ⟨⟨_, _, _, _, _, _, _, _, _, _, _, _, _, _, _, xL_InvalidWeaving, rB_InvalidWeaving⟩, sa_InvalidWeaving, eC_InvalidWeaving, tC_InvalidWeaving, kC_InvalidWeaving⟩, y_InvalidWeaving := ⟨ga_InvalidWeaving, gg_InvalidWeaving, eC_InvalidWeaving, hC_InvalidWeaving⟩, n_InvalidWeaving := nb_InvalidWeaving, i_InvalidWeaving := a15, t_InvalidWeaving := t1_InvalidWeaving,
    C_InvalidStore := C_InvalidStore, g_InvalidStore := PySem.W.mg_of X G g_InvalidStore,
    x_InvalidStore := ⟨⟨_, _, _, _, _, _, _, _, _, _, _, _, _, _, _, xL_InvalidStore, rB_InvalidStore⟩, sa_InvalidStore, eC_InvalidStore, tC_InvalidStore, kC_InvalidStore⟩, y_InvalidStore := ⟨ga_InvalidStore, gg_InvalidStore, eC_InvalidStore, hC_InvalidStore⟩, n_InvalidStore := nb_InvalidStore, i_InvalidStore := a16, t_InvalidStore := t1_InvalidStore,
    C_InvalidScene := C_InvalidScene, g_InvalidScene := PySem.W.mg_of X G g_InvalidScene,
    x_InvalidScene := ⟨⟨_, _, _, _, _, _, _, _, _, _, _, _, _, _, _, xL_InvalidScene, rB_InvalidScene⟩, sa_InvalidScene, eC_InvalidScene, tC_InvalidScene, kC_InvalidScene⟩, y_InvalidScene := ⟨ga_InvalidScene, gg_InvalidScene, eC_InvalidScene, hC_InvalidScene⟩, n_InvalidScene := nb_InvalidScene, i_InvalidScene := a17, t_InvalidScene := t1_InvalidScene,
    C_InvalidLog := C_InvalidLog, g_InvalidLog := PySem.W.mg_of X G g_InvalidLog,
    x_InvalidLog := ⟨⟨_, _, _, _, _, _, _, _, _, _, _, _, _, _, _, xL_InvalidLog, rB_InvalidLog⟩, sa_InvalidLog, eC_InvalidLog, tC_InvalidLog, kC_InvalidLog⟩, y_InvalidLog := ⟨ga_InvalidLog, gg_InvalidLog, eC_InvalidLog, hC_InvalidLog⟩, n_InvalidLog := nb_InvalidLog, i_InvalidLog := a18, t_InvalidLog := t1_InvalidLog,
    C_InvalidText := C_InvalidText, g_InvalidText := PySem.W.mg_of X G g_InvalidText,
    x_InvalidText := ⟨⟨_, _, _, _, _, _, _, _, _, _, _, _, _, _, _, xL_InvalidText, rB_InvalidText⟩, sa_InvalidText, eC_InvalidText, tC_InvalidText, kC_InvalidText⟩, y_InvalidText := ⟨ga_InvalidText, gg_InvalidText, eC_InvalidText, hC_InvalidText⟩, n_InvalidText := nb_InvalidText, i_InvalidText := a19, t_InvalidText := t1_InvalidText,
    C_InvalidCommand := C_InvalidCommand, g_InvalidCommand := PySem.W.mg_of X G g_InvalidCommand,
    x_InvalidCommand := ⟨⟨_, _, _, _, _, _, _, _, _, _, _, _, _, _, _, xL_InvalidCommand, rB_InvalidCommand⟩, sa_InvalidCommand, eC_InvalidCommand, tC_InvalidCommand, kC_InvalidCommand⟩, y_InvalidCommand := ⟨ga_InvalidCommand, gg_InvalidCommand, eC_InvalidCommand, hC_InvalidCommand⟩, n_InvalidCommand := nb_InvalidCommand, i_InvalidCommand := a20, t_InvalidCommand := t1_InvalidCommand,
    C_Duplicate := C_Duplicate, g_Duplicate := PySem.W.mg_of X G g_Duplicate,
    x_Duplicate := ⟨⟨_, _, _, _, _, _, _, _, _, _, _, _, _, _, _, xL_Duplicate, rB_Duplicate⟩, sa_Duplicate, eC_Duplicate, tC_Duplicate, kC_Duplicate⟩, y_Duplicate := ⟨ga_Duplicate, gg_Duplicate, eC_Duplicate, hC_Duplicate⟩, n_Duplicate := nb_Duplicate, i_Duplicate := a21, t_Duplicate := t1_Duplicate,
    C_UnknownPart := C_UnknownPart, g_UnknownPart := PySem.W.mg_of X G g_UnknownPart,
    x_UnknownPart := ⟨⟨_, _, _, _, _, _, _, _, _, _, _, _, _, _, _, xL_UnknownPart, rB_UnknownPart⟩, sa_UnknownPart, eC_UnknownPart, tC_UnknownPart, kC_UnknownPart⟩, y_UnknownPart := ⟨ga_UnknownPart, gg_UnknownPart, eC_UnknownPart, hC_UnknownPart⟩, n_UnknownPart := nb_UnknownPart, i_UnknownPart := a22, t_UnknownPart := t1_UnknownPart,
    C_UnknownMode := C_UnknownMode, g_UnknownMode := PySem.W.mg_of X G g_UnknownMode,
    x_UnknownMode := ⟨⟨_, _, _, _, _, _, _, _, _, _, _, _, _, _, _, xL_UnknownMode, rB_UnknownMode⟩, sa_UnknownMode, eC_UnknownMode, tC_UnknownMode, kC_UnknownMode⟩, y_UnknownMode := ⟨ga_UnknownMode, gg_UnknownMode, eC_UnknownMode, hC_UnknownMode⟩, n_UnknownMode := nb_UnknownMode, i_UnknownMode := a23, t_UnknownMode := t1_UnknownMode,
    C_UnknownEntry := C_UnknownEntry, g_UnknownEntry := PySem.W.mg_of X G g_UnknownEntry,
    x_UnknownEntry := ⟨⟨_, _, _, _, _, _, _, _, _, _, _, _, _, _, _, xL_UnknownEntry, rB_UnknownEntry⟩, sa_UnknownEntry, eC_UnknownEntry, tC_UnknownEntry, kC_UnknownEntry⟩, y_UnknownEntry := ⟨ga_UnknownEntry, gg_UnknownEntry, eC_UnknownEntry, hC_UnknownEntry⟩, n_UnknownEntry := nb_UnknownEntry, i_UnknownEntry := a24, t_UnknownEntry := t1_UnknownEntry,
    C_NameTaken := C_NameTaken, g_NameTaken := PySem.W.mg_of X G g_NameTaken,
    x_NameTaken := ⟨⟨_, _, _, _, _, _, _, _, _, _, _, _, _, _, _, xL_NameTaken, rB_NameTaken⟩, sa_NameTaken, eC_NameTaken, tC_NameTaken, kC_NameTaken⟩, y_NameTaken := ⟨ga_NameTaken, gg_NameTaken, eC_NameTaken, hC_NameTaken⟩, n_NameTaken := nb_NameTaken, i_NameTaken := a25, t_NameTaken := t1_NameTaken,
    C_Overlap := C_Overlap, g_Overlap := PySem.W.mg_of X G g_Overlap,
    x_Overlap := ⟨⟨_, _, _, _, _, _, _, _, _, _, _, _, _, _, _, xL_Overlap, rB_Overlap⟩, sa_Overlap, eC_Overlap, tC_Overlap, kC_Overlap⟩, y_Overlap := ⟨ga_Overlap, gg_Overlap, eC_Overlap, hC_Overlap⟩, n_Overlap := nb_Overlap, i_Overlap := a26, t_Overlap := t1_Overlap,
    C_NotInside := C_NotInside, g_NotInside := PySem.W.mg_of X G g_NotInside,
    x_NotInside := ⟨⟨_, _, _, _, _, _, _, _, _, _, _, _, _, _, _, xL_NotInside, rB_NotInside⟩, sa_NotInside, eC_NotInside, tC_NotInside, kC_NotInside⟩, y_NotInside := ⟨ga_NotInside, gg_NotInside, eC_NotInside, hC_NotInside⟩, n_NotInside := nb_NotInside, i_NotInside := a27, t_NotInside := t1_NotInside,
    C_NotNeighbours := C_NotNeighbours, g_NotNeighbours := PySem.W.mg_of X G g_NotNeighbours,
    x_NotNeighbours := ⟨⟨_, _, _, _, _, _, _, _, _, _, _, _, _, _, _, xL_NotNeighbours, rB_NotNeighbours⟩, sa_NotNeighbours, eC_NotNeighbours, tC_NotNeighbours, kC_NotNeighbours⟩, y_NotNeighbours := ⟨ga_NotNeighbours, gg_NotNeighbours, eC_NotNeighbours, hC_NotNeighbours⟩, n_NotNeighbours := nb_NotNeighbours, i_NotNeighbours := a28, t_NotNeighbours := t1_NotNeighbours,
    C_NoProgram := C_NoProgram, g_NoProgram := PySem.W.mg_of X G g_NoProgram,
    x_NoProgram := ⟨⟨_, _, _, _, _, _, _, _, _, _, _, _, _, _, _, xL_NoProgram, rB_NoProgram⟩, sa_NoProgram, eC_NoProgram, tC_NoProgram, kC_NoProgram⟩, y_NoProgram := ⟨ga_NoProgram, gg_NoProgram, eC_NoProgram, hC_NoProgram⟩, n_NoProgram := nb_NoProgram, i_NoProgram := a29, t_NoProgram := t1_NoProgram,
    C_TooMany := C_TooMany, g_TooMany := PySem.W.mg_of X G g_TooMany,
    x_TooMany := ⟨⟨_, _, _, _, _, _, _, _, _, _, _, _, _, _, _, xL_TooMany, rB_TooMany⟩, sa_TooMany, eC_TooMany, tC_TooMany, kC_TooMany⟩, y_TooMany := ⟨ga_TooMany, gg_TooMany, eC_TooMany, hC_TooMany⟩, n_TooMany := nb_TooMany, i_TooMany := a30, t_TooMany := t1_TooMany,
    C_Ended := C_Ended, g_Ended := PySem.W.mg_of X G g_Ended,
    x_Ended := ⟨⟨_, _, _, _, _, _, _, _, _, _, _, _, _, _, _, xL_Ended, rB_Ended⟩, sa_Ended, eC_Ended, tC_Ended, kC_Ended⟩, y_Ended := ⟨ga_Ended, gg_Ended, eC_Ended, hC_Ended⟩, n_Ended := nb_Ended, i_Ended := a31, t_Ended := t1_Ended,
    C_Waiting := C_Waiting, g_Waiting := PySem.W.mg_of X G g_Waiting,
    x_Waiting := ⟨⟨_, _, _, _, _, _, _, _, _, _, _, _, _, _, _, xL_Waiting, rB_Waiting⟩, sa_Waiting, eC_Waiting, tC_Waiting, kC_Waiting⟩, y_Waiting := ⟨ga_Waiting, gg_Waiting, eC_Waiting, hC_Waiting⟩, n_Waiting := nb_Waiting, i_Waiting := a32, t_Waiting := t1_Waiting,
    C_NothingBad := C_NothingBad, g_NothingBad := PySem.W.mg_of X G g_NothingBad,
    C_NotRight := C_NotRight, g_NotRight := PySem.W.mg_of X G g_NotRight,
    C_NoStore := C_NoStore, g_NoStore := PySem.W.mg_of X G g_NoStore,
    C_NothingToUndo := C_NothingToUndo, g_NothingToUndo := PySem.W.mg_of X G g_NothingToUndo,
    C_NothingToRedo := C_NothingToRedo, g_NothingToRedo := PySem.W.mg_of X G g_NothingToRedo,
    q_PartsError := q_PartsError, kp_PartsError := kp_PartsError,
    q_NothingBad := q_NothingBad, kp_NothingBad := kp_NothingBad,
    q_NotRight := q_NotRight, kp_NotRight := kp_NotRight,
    q_NoStore := q_NoStore, kp_NoStore := kp_NoStore,
    q_NothingToUndo := q_NothingToUndo, kp_NothingToUndo := kp_NothingToUndo,
    q_NothingToRedo := q_NothingToRedo, kp_NothingToRedo := kp_NothingToRedo,
    ke := ke,
    tab := tab,
    tabP := tabP,
    ups := ups,
    z_len := PySem.W.mg_none_of X G z_len,
    z_max := PySem.W.mg_none_of X G z_max,
    z_isinstance := PySem.W.mg_none_of X G z_isinstance,
    z_range := PySem.W.mg_none_of X G z_range,
    z_ValueError := PySem.W.mg_none_of X G z_ValueError,
    z_KeyError := PySem.W.mg_none_of X G z_KeyError,
    z_IndexError := PySem.W.mg_none_of X G z_IndexError,
    z_TypeError := PySem.W.mg_none_of X G z_TypeError,
    z_min := PySem.W.mg_none_of X G z_min,
    z_bool := PySem.W.mg_none_of X G z_bool }
  exact ⟨T.fd_law, fun s v => .of_eq rfl, fun base _ _ => ok_law T⟩
theorem walk {l : PySem.W.OpenLaw} {q : Program} {loose : List Str} {XP : (Str → Option Value) → Heap → Prop} {YP : World → Heap → Prop} {d : DefRec} {K : Params → PySem.W.Frag} (hn : l.most = some 63) (hdf : d.params.defaults = [])
    (hY : ∀ (w : World) (h : Heap), YP w h → (K w.params).In h)
    (F : ∀ (w : World) (mg : Str → Option Value) (fa : Addr) (h : Heap), (K w.params).In h → h.Ns mainGlobals mg → mg d.name = some (.ref fa) →
      ∃ fd : FuncData, (∀ (s : Shared) (u : Value), BindsTo s fd ⟨[u], []⟩ [("_law_script", u)]) ∧ ∀ base : Heap, (K w.params).In base → base.Ns mainGlobals mg → FnOk l.prog w (K w.params) mg base CX0 4 fa fd ["_law_script"] (sp_law (K w.params))) :
    PySem.W.WalkO q loose XP YP l.row.toRowW d [] (fun f vs => PySem.call f vs) :=
  L2.walk_of (n := 63) (k := 4) (x := "_law_script") (CX := fun _ => CX0) (sp := fun w => sp_law (K w.params)) hn (by decide) hdf ⟨rfl, by decide, by decide⟩ hY F (fun _ _ a ns hl _ hS => ⟨a, ns, rfl, hS, hl, fun _ => rfl⟩) fun _ _ _ _ _ z => z
end My
open PySem PySem.W PyProof.Rows
set_option maxRecDepth 100000 in
set_option maxHeartbeats 0 in
theorem PySem.Challenge.cw_hungparts_k04_exceptions_and_their_field_holds : PySem.Challenge.rw_hungparts_k04_exceptions_and_their_field.Holds := by
  w_on; o_law; k_head; (case hw => w_witness2)
  k_fill
  refine My.walk (l := PySem.Challenge.rw_hungparts_k04_exceptions_and_their_field) rfl rfl (fun w h Y => PySem.W.kIn_of Y) ?F
  case F =>
    intro w mg fa h KX G hmg
    refine' My.all_mk KX G hmg ?a0 ?l0 ?c0 ?k0 ?a1 ?l1 ?c1 ?k1 ?a2 ?l2 ?c2 ?k2 ?a3 ?l3 ?c3 ?k3 ?a4 ?l4 ?c4 ?k4 ?a5 ?l5 ?c5 ?k5 ?a6 ?l6 ?c6 ?k6 ?a7 ?l7 ?c7 ?k7 ?a8 ?l8 ?c8 ?k8 ?a9 ?l9 ?c9 ?k9 ?a10 ?l10 ?c10 ?k10 ?a11 ?l11 ?c11 ?k11 ?a12 ?l12 ?c12 ?k12 ?a13 ?l13 ?c13 ?k13 ?a14 ?l14 ?c14 ?k14 ?a15 ?l15 ?c15 ?k15 ?a16 ?l16 ?c16 ?k16 ?a17 ?l17 ?c17 ?k17 ?a18 ?l18 ?c18 ?k18 ?a19 ?l19 ?c19 ?k19 ?a20 ?l20 ?c20 ?k20 ?a21 ?l21 ?c21 ?k21 ?a22 ?l22 ?c22 ?k22 ?a23 ?l23 ?c23 ?k23 ?a24 ?l24 ?c24 ?k24 ?a25 ?l25 ?c25 ?k25 ?a26 ?l26 ?c26 ?k26 ?a27 ?l27 ?c27 ?k27 ?a28 ?l28 ?c28 ?k28 ?a29 ?l29 ?c29 ?k29 ?a30 ?l30 ?c30 ?k30 ?a31 ?l31 ?c31 ?k31 ?a32 ?l32 ?c32 ?k32 ?a33 ?l33 ?c33 ?k33 ?a34 ?l34 ?c34 ?k34 ?a35 ?l35 ?c35 ?k35 ?a36 ?l36 ?c36 ?k36 ?a37 ?l37 ?c37 ?k37 ?a38 ?l38 ?c38 ?k38 ?a39 ?l39 ?c39 ?k39 ?a40 ?l40 ?c40 ?k40 ?g_PartsError ?g_InvalidName ?xL_InvalidName ?rB_InvalidName ?sa_InvalidName ?ga_InvalidName ?gg_InvalidName ?nb_InvalidName ?t1_InvalidName ?kC_InvalidName ?eC_InvalidName ?tC_InvalidName ?hC_InvalidName ?g_InvalidKey ?xL_InvalidKey ?rB_InvalidKey ?sa_InvalidKey ?ga_InvalidKey ?gg_InvalidKey ?nb_InvalidKey ?t1_InvalidKey ?kC_InvalidKey ?eC_InvalidKey ?tC_InvalidKey ?hC_InvalidKey ?g_InvalidSpan ?xL_InvalidSpan ?rB_InvalidSpan ?sa_InvalidSpan ?ga_InvalidSpan ?gg_InvalidSpan ?nb_InvalidSpan ?t1_InvalidSpan ?kC_InvalidSpan ?eC_InvalidSpan ?tC_InvalidSpan ?hC_InvalidSpan ?g_InvalidSpans ?xL_InvalidSpans ?rB_InvalidSpans ?sa_InvalidSpans ?ga_InvalidSpans ?gg_InvalidSpans ?nb_InvalidSpans ?t1_InvalidSpans ?kC_InvalidSpans ?eC_InvalidSpans ?tC_InvalidSpans ?hC_InvalidSpans ?g_InvalidCatalog ?xL_InvalidCatalog ?rB_InvalidCatalog ?sa_InvalidCatalog ?ga_InvalidCatalog ?gg_InvalidCatalog ?nb_InvalidCatalog ?t1_InvalidCatalog ?kC_InvalidCatalog ?eC_InvalidCatalog ?tC_InvalidCatalog ?hC_InvalidCatalog ?g_InvalidChange ?xL_InvalidChange ?rB_InvalidChange ?sa_InvalidChange ?ga_InvalidChange ?gg_InvalidChange ?nb_InvalidChange ?t1_InvalidChange ?kC_InvalidChange ?eC_InvalidChange ?tC_InvalidChange ?hC_InvalidChange ?g_InvalidModes ?xL_InvalidModes ?rB_InvalidModes ?sa_InvalidModes ?ga_InvalidModes ?gg_InvalidModes ?nb_InvalidModes ?t1_InvalidModes ?kC_InvalidModes ?eC_InvalidModes ?tC_InvalidModes ?hC_InvalidModes ?g_InvalidClash ?xL_InvalidClash ?rB_InvalidClash ?sa_InvalidClash ?ga_InvalidClash ?gg_InvalidClash ?nb_InvalidClash ?t1_InvalidClash ?kC_InvalidClash ?eC_InvalidClash ?tC_InvalidClash ?hC_InvalidClash ?g_InvalidStrengths ?xL_InvalidStrengths ?rB_InvalidStrengths ?sa_InvalidStrengths ?ga_InvalidStrengths ?gg_InvalidStrengths ?nb_InvalidStrengths ?t1_InvalidStrengths ?kC_InvalidStrengths ?eC_InvalidStrengths ?tC_InvalidStrengths ?hC_InvalidStrengths ?g_InvalidProgram ?xL_InvalidProgram ?rB_InvalidProgram ?sa_InvalidProgram ?ga_InvalidProgram ?gg_InvalidProgram ?nb_InvalidProgram ?t1_InvalidProgram ?kC_InvalidProgram ?eC_InvalidProgram ?tC_InvalidProgram ?hC_InvalidProgram ?g_InvalidPrograms ?xL_InvalidPrograms ?rB_InvalidPrograms ?sa_InvalidPrograms ?ga_InvalidPrograms ?gg_InvalidPrograms ?nb_InvalidPrograms ?t1_InvalidPrograms ?kC_InvalidPrograms ?eC_InvalidPrograms ?tC_InvalidPrograms ?hC_InvalidPrograms ?g_InvalidProtocol ?xL_InvalidProtocol ?rB_InvalidProtocol ?sa_InvalidProtocol ?ga_InvalidProtocol ?gg_InvalidProtocol ?nb_InvalidProtocol ?t1_InvalidProtocol ?kC_InvalidProtocol ?eC_InvalidProtocol ?tC_InvalidProtocol ?hC_InvalidProtocol ?g_InvalidRows ?xL_InvalidRows ?rB_InvalidRows ?sa_InvalidRows ?ga_InvalidRows ?gg_InvalidRows ?nb_InvalidRows ?t1_InvalidRows ?kC_InvalidRows ?eC_InvalidRows ?tC_InvalidRows ?hC_InvalidRows ?g_InvalidSession ?xL_InvalidSession ?rB_InvalidSession ?sa_InvalidSession ?ga_InvalidSession ?gg_InvalidSession ?nb_InvalidSession ?t1_InvalidSession ?kC_InvalidSession ?eC_InvalidSession ?tC_InvalidSession ?hC_InvalidSession ?g_InvalidNumber ?xL_InvalidNumber ?rB_InvalidNumber ?sa_InvalidNumber ?ga_InvalidNumber ?gg_InvalidNumber ?nb_InvalidNumber ?t1_InvalidNumber ?kC_InvalidNumber ?eC_InvalidNumber ?tC_InvalidNumber ?hC_InvalidNumber ?g_InvalidWeaving ?xL_InvalidWeaving ?rB_InvalidWeaving ?sa_InvalidWeaving ?ga_InvalidWeaving ?gg_InvalidWeaving ?nb_InvalidWeaving ?t1_InvalidWeaving ?kC_InvalidWeaving ?eC_InvalidWeaving ?tC_InvalidWeaving ?hC_InvalidWeaving ?g_InvalidStore ?xL_InvalidStore ?rB_InvalidStore ?sa_InvalidStore ?ga_InvalidStore ?gg_InvalidStore ?nb_InvalidStore ?t1_InvalidStore ?kC_InvalidStore ?eC_InvalidStore ?tC_InvalidStore ?hC_InvalidStore ?g_InvalidScene ?xL_InvalidScene ?rB_InvalidScene ?sa_InvalidScene ?ga_InvalidScene ?gg_InvalidScene ?nb_InvalidScene ?t1_InvalidScene ?kC_InvalidScene ?eC_InvalidScene ?tC_InvalidScene ?hC_InvalidScene ?g_InvalidLog ?xL_InvalidLog ?rB_InvalidLog ?sa_InvalidLog ?ga_InvalidLog ?gg_InvalidLog ?nb_InvalidLog ?t1_InvalidLog ?kC_InvalidLog ?eC_InvalidLog ?tC_InvalidLog ?hC_InvalidLog ?g_InvalidText ?xL_InvalidText ?rB_InvalidText ?sa_InvalidText ?ga_InvalidText ?gg_InvalidText ?nb_InvalidText ?t1_InvalidText ?kC_InvalidText ?eC_InvalidText ?tC_InvalidText ?hC_InvalidText ?g_InvalidCommand ?xL_InvalidCommand ?rB_InvalidCommand ?sa_InvalidCommand ?ga_InvalidCommand ?gg_InvalidCommand ?nb_InvalidCommand ?t1_InvalidCommand ?kC_InvalidCommand ?eC_InvalidCommand ?tC_InvalidCommand ?hC_InvalidCommand ?g_Duplicate ?xL_Duplicate ?rB_Duplicate ?sa_Duplicate ?ga_Duplicate ?gg_Duplicate ?nb_Duplicate ?t1_Duplicate ?kC_Duplicate ?eC_Duplicate ?tC_Duplicate ?hC_Duplicate ?g_UnknownPart ?xL_UnknownPart ?rB_UnknownPart ?sa_UnknownPart ?ga_UnknownPart ?gg_UnknownPart ?nb_UnknownPart ?t1_UnknownPart ?kC_UnknownPart ?eC_UnknownPart ?tC_UnknownPart ?hC_UnknownPart ?g_UnknownMode ?xL_UnknownMode ?rB_UnknownMode ?sa_UnknownMode ?ga_UnknownMode ?gg_UnknownMode ?nb_UnknownMode ?t1_UnknownMode ?kC_UnknownMode ?eC_UnknownMode ?tC_UnknownMode ?hC_UnknownMode ?g_UnknownEntry ?xL_UnknownEntry ?rB_UnknownEntry ?sa_UnknownEntry ?ga_UnknownEntry ?gg_UnknownEntry ?nb_UnknownEntry ?t1_UnknownEntry ?kC_UnknownEntry ?eC_UnknownEntry ?tC_UnknownEntry ?hC_UnknownEntry ?g_NameTaken ?xL_NameTaken ?rB_NameTaken ?sa_NameTaken ?ga_NameTaken ?gg_NameTaken ?nb_NameTaken ?t1_NameTaken ?kC_NameTaken ?eC_NameTaken ?tC_NameTaken ?hC_NameTaken ?g_Overlap ?xL_Overlap ?rB_Overlap ?sa_Overlap ?ga_Overlap ?gg_Overlap ?nb_Overlap ?t1_Overlap ?kC_Overlap ?eC_Overlap ?tC_Overlap ?hC_Overlap ?g_NotInside ?xL_NotInside ?rB_NotInside ?sa_NotInside ?ga_NotInside ?gg_NotInside ?nb_NotInside ?t1_NotInside ?kC_NotInside ?eC_NotInside ?tC_NotInside ?hC_NotInside ?g_NotNeighbours ?xL_NotNeighbours ?rB_NotNeighbours ?sa_NotNeighbours ?ga_NotNeighbours ?gg_NotNeighbours ?nb_NotNeighbours ?t1_NotNeighbours ?kC_NotNeighbours ?eC_NotNeighbours ?tC_NotNeighbours ?hC_NotNeighbours ?g_NoProgram ?xL_NoProgram ?rB_NoProgram ?sa_NoProgram ?ga_NoProgram ?gg_NoProgram ?nb_NoProgram ?t1_NoProgram ?kC_NoProgram ?eC_NoProgram ?tC_NoProgram ?hC_NoProgram ?g_TooMany ?xL_TooMany ?rB_TooMany ?sa_TooMany ?ga_TooMany ?gg_TooMany ?nb_TooMany ?t1_TooMany ?kC_TooMany ?eC_TooMany ?tC_TooMany ?hC_TooMany ?g_Ended ?xL_Ended ?rB_Ended ?sa_Ended ?ga_Ended ?gg_Ended ?nb_Ended ?t1_Ended ?kC_Ended ?eC_Ended ?tC_Ended ?hC_Ended ?g_Waiting ?xL_Waiting ?rB_Waiting ?sa_Waiting ?ga_Waiting ?gg_Waiting ?nb_Waiting ?t1_Waiting ?kC_Waiting ?eC_Waiting ?tC_Waiting ?hC_Waiting ?g_NothingBad ?g_NotRight ?g_NoStore ?g_NothingToUndo ?g_NothingToRedo ?q_PartsError ?kp_PartsError ?q_NothingBad ?kp_NothingBad ?q_NotRight ?kp_NotRight ?q_NoStore ?kp_NoStore ?q_NothingToUndo ?kp_NothingToUndo ?q_NothingToRedo ?kp_NothingToRedo ?ke ?tab ?tabP ?ups ?z_len ?z_max ?z_isinstance ?z_range ?z_ValueError ?z_KeyError ?z_IndexError ?z_TypeError ?z_min ?z_bool
    (case g_PartsError => k_is)
    (case g_InvalidName => k_is)
    (case g_InvalidKey => k_is)
    (case g_InvalidSpan => k_is)
    (case g_InvalidSpans => k_is)
    (case g_InvalidCatalog => k_is)
    (case g_InvalidChange => k_is)
    (case g_InvalidModes => k_is)
    (case g_InvalidClash => k_is)
    (case g_InvalidStrengths => k_is)
    (case g_InvalidProgram => k_is)
    (case g_InvalidPrograms => k_is)
    (case g_InvalidProtocol => k_is)
    (case g_InvalidRows => k_is)
    (case g_InvalidSession => k_is)
    (case g_InvalidNumber => k_is)
    (case g_InvalidWeaving => k_is)
    (case g_InvalidStore => k_is)
    (case g_InvalidScene => k_is)
    (case g_InvalidLog => k_is)
    (case g_InvalidText => k_is)
    (case g_InvalidCommand => k_is)
    (case g_Duplicate => k_is)
    (case g_UnknownPart => k_is)
    (case g_UnknownMode => k_is)
    (case g_UnknownEntry => k_is)
    (case g_NameTaken => k_is)
    (case g_Overlap => k_is)
    (case g_NotInside => k_is)
    (case g_NotNeighbours => k_is)
    (case g_NoProgram => k_is)
    (case g_TooMany => k_is)
    (case g_Ended => k_is)
    (case g_Waiting => k_is)
    (case g_NothingBad => k_is)
    (case g_NotRight => k_is)
    (case g_NoStore => k_is)
    (case g_NothingToUndo => k_is)
    (case g_NothingToRedo => k_is)
    (case a0 => k_is)
    (case l0 => k_is)
    (case c0 => k_is)
    (case k0 => k_is)
    (case a1 => k_is)
    (case l1 => k_is)
    (case c1 => k_is)
    (case k1 => k_is)
    (case a2 => k_is)
    (case l2 => k_is)
    (case c2 => k_is)
    (case k2 => k_is)
    (case a3 => k_is)
    (case l3 => k_is)
    (case c3 => k_is)
    (case k3 => k_is)
    (case a4 => k_is)
    (case l4 => k_is)
    (case c4 => k_is)
    (case k4 => k_is)
    (case a5 => k_is)
    (case l5 => k_is)
    (case c5 => k_is)
    (case k5 => k_is)
    (case a6 => k_is)
    (case l6 => k_is)
    (case c6 => k_is)
    (case k6 => k_is)
    (case a7 => k_is)
    (case l7 => k_is)
    (case c7 => k_is)
    (case k7 => k_is)
    (case a8 => k_is)
    (case l8 => k_is)
    (case c8 => k_is)
    (case k8 => k_is)
    (case a9 => k_is)
    (case l9 => k_is)
    (case c9 => k_is)
    (case k9 => k_is)
    (case a10 => k_is)
    (case l10 => k_is)
    (case c10 => k_is)
    (case k10 => k_is)
    (case a11 => k_is)
    (case l11 => k_is)
    (case c11 => k_is)
    (case k11 => k_is)
    (case a12 => k_is)
    (case l12 => k_is)
    (case c12 => k_is)
    (case k12 => k_is)
    (case a13 => k_is)
    (case l13 => k_is)
    (case c13 => k_is)
    (case k13 => k_is)
    (case a14 => k_is)
    (case l14 => k_is)
    (case c14 => k_is)
    (case k14 => k_is)
    (case a15 => k_is)
    (case l15 => k_is)
    (case c15 => k_is)
    (case k15 => k_is)
    (case a16 => k_is)
    (case l16 => k_is)
    (case c16 => k_is)
    (case k16 => k_is)
    (case a17 => k_is)
    (case l17 => k_is)
    (case c17 => k_is)
    (case k17 => k_is)
    (case a18 => k_is)
    (case l18 => k_is)
    (case c18 => k_is)
    (case k18 => k_is)
    (case a19 => k_is)
    (case l19 => k_is)
    (case c19 => k_is)
    (case k19 => k_is)
    (case a20 => k_is)
    (case l20 => k_is)
    (case c20 => k_is)
    (case k20 => k_is)
    (case a21 => k_is)
    (case l21 => k_is)
    (case c21 => k_is)
    (case k21 => k_is)
    (case a22 => k_is)
    (case l22 => k_is)
    (case c22 => k_is)
    (case k22 => k_is)
    (case a23 => k_is)
    (case l23 => k_is)
    (case c23 => k_is)
    (case k23 => k_is)
    (case a24 => k_is)
    (case l24 => k_is)
    (case c24 => k_is)
    (case k24 => k_is)
    (case a25 => k_is)
    (case l25 => k_is)
    (case c25 => k_is)
    (case k25 => k_is)
    (case a26 => k_is)
    (case l26 => k_is)
    (case c26 => k_is)
    (case k26 => k_is)
    (case a27 => k_is)
    (case l27 => k_is)
    (case c27 => k_is)
    (case k27 => k_is)
    (case a28 => k_is)
    (case l28 => k_is)
    (case c28 => k_is)
    (case k28 => k_is)
    (case a29 => k_is)
    (case l29 => k_is)
    (case c29 => k_is)
    (case k29 => k_is)
    (case a30 => k_is)
    (case l30 => k_is)
    (case c30 => k_is)
    (case k30 => k_is)
    (case a31 => k_is)
    (case l31 => k_is)
    (case c31 => k_is)
    (case k31 => k_is)
    (case a32 => k_is)
    (case l32 => k_is)
    (case c32 => k_is)
    (case k32 => k_is)
    (case a33 => k_is)
    (case l33 => k_is)
    (case c33 => k_is)
    (case k33 => k_is)
    (case a34 => k_is)
    (case l34 => k_is)
    (case c34 => k_is)
    (case k34 => k_is)
    (case a35 => k_is)
    (case l35 => k_is)
    (case c35 => k_is)
    (case k35 => k_is)
    (case a36 => k_is)
    (case l36 => k_is)
    (case c36 => k_is)
    (case k36 => k_is)
    (case a37 => k_is)
    (case l37 => k_is)
    (case c37 => k_is)
    (case k37 => k_is)
    (case a38 => k_is)
    (case l38 => k_is)
    (case c38 => k_is)
    (case k38 => k_is)
    (case a39 => k_is)
    (case l39 => k_is)
    (case c39 => k_is)
    (case k39 => k_is)
    (case a40 => k_is)
    (case l40 => k_is)
    (case c40 => k_is)
    (case k40 => k_is)
    (case xL_InvalidName => k_is)
    (case rB_InvalidName => decide +kernel)
    (case sa_InvalidName => k_is)
    (case ga_InvalidName => k_is)
    (case gg_InvalidName => k_is)
    (case nb_InvalidName => k_is)
    (case t1_InvalidName => k_is)
    (case kC_InvalidName => k_is)
    (case eC_InvalidName => k_is)
    (case tC_InvalidName => k_is)
    (case hC_InvalidName => k_is)
    (case xL_InvalidKey => k_is)
    (case rB_InvalidKey => decide +kernel)
    (case sa_InvalidKey => k_is)
    (case ga_InvalidKey => k_is)
    (case gg_InvalidKey => k_is)
    (case nb_InvalidKey => k_is)
    (case t1_InvalidKey => k_is)
    (case kC_InvalidKey => k_is)
    (case eC_InvalidKey => k_is)
    (case tC_InvalidKey => k_is)
    (case hC_InvalidKey => k_is)
    (case xL_InvalidSpan => k_is)
    (case rB_InvalidSpan => decide +kernel)
    (case sa_InvalidSpan => k_is)
    (case ga_InvalidSpan => k_is)
    (case gg_InvalidSpan => k_is)
    (case nb_InvalidSpan => k_is)
    (case t1_InvalidSpan => k_is)
    (case kC_InvalidSpan => k_is)
    (case eC_InvalidSpan => k_is)
    (case tC_InvalidSpan => k_is)
    (case hC_InvalidSpan => k_is)
    (case xL_InvalidSpans => k_is)
    (case rB_InvalidSpans => decide +kernel)
    (case sa_InvalidSpans => k_is)
    (case ga_InvalidSpans => k_is)
    (case gg_InvalidSpans => k_is)
    (case nb_InvalidSpans => k_is)
    (case t1_InvalidSpans => k_is)
    (case kC_InvalidSpans => k_is)
    (case eC_InvalidSpans => k_is)
    (case tC_InvalidSpans => k_is)
    (case hC_InvalidSpans => k_is)
    (case xL_InvalidCatalog => k_is)
    (case rB_InvalidCatalog => decide +kernel)
    (case sa_InvalidCatalog => k_is)
    (case ga_InvalidCatalog => k_is)
    (case gg_InvalidCatalog => k_is)
    (case nb_InvalidCatalog => k_is)
    (case t1_InvalidCatalog => k_is)
    (case kC_InvalidCatalog => k_is)
    (case eC_InvalidCatalog => k_is)
    (case tC_InvalidCatalog => k_is)
    (case hC_InvalidCatalog => k_is)
    (case xL_InvalidChange => k_is)
    (case rB_InvalidChange => decide +kernel)
    (case sa_InvalidChange => k_is)
    (case ga_InvalidChange => k_is)
    (case gg_InvalidChange => k_is)
    (case nb_InvalidChange => k_is)
    (case t1_InvalidChange => k_is)
    (case kC_InvalidChange => k_is)
    (case eC_InvalidChange => k_is)
    (case tC_InvalidChange => k_is)
    (case hC_InvalidChange => k_is)
    (case xL_InvalidModes => k_is)
    (case rB_InvalidModes => decide +kernel)
    (case sa_InvalidModes => k_is)
    (case ga_InvalidModes => k_is)
    (case gg_InvalidModes => k_is)
    (case nb_InvalidModes => k_is)
    (case t1_InvalidModes => k_is)
    (case kC_InvalidModes => k_is)
    (case eC_InvalidModes => k_is)
    (case tC_InvalidModes => k_is)
    (case hC_InvalidModes => k_is)
    (case xL_InvalidClash => k_is)
    (case rB_InvalidClash => decide +kernel)
    (case sa_InvalidClash => k_is)
    (case ga_InvalidClash => k_is)
    (case gg_InvalidClash => k_is)
    (case nb_InvalidClash => k_is)
    (case t1_InvalidClash => k_is)
    (case kC_InvalidClash => k_is)
    (case eC_InvalidClash => k_is)
    (case tC_InvalidClash => k_is)
    (case hC_InvalidClash => k_is)
    (case xL_InvalidStrengths => k_is)
    (case rB_InvalidStrengths => decide +kernel)
    (case sa_InvalidStrengths => k_is)
    (case ga_InvalidStrengths => k_is)
    (case gg_InvalidStrengths => k_is)
    (case nb_InvalidStrengths => k_is)
    (case t1_InvalidStrengths => k_is)
    (case kC_InvalidStrengths => k_is)
    (case eC_InvalidStrengths => k_is)
    (case tC_InvalidStrengths => k_is)
    (case hC_InvalidStrengths => k_is)
    (case xL_InvalidProgram => k_is)
    (case rB_InvalidProgram => decide +kernel)
    (case sa_InvalidProgram => k_is)
    (case ga_InvalidProgram => k_is)
    (case gg_InvalidProgram => k_is)
    (case nb_InvalidProgram => k_is)
    (case t1_InvalidProgram => k_is)
    (case kC_InvalidProgram => k_is)
    (case eC_InvalidProgram => k_is)
    (case tC_InvalidProgram => k_is)
    (case hC_InvalidProgram => k_is)
    (case xL_InvalidPrograms => k_is)
    (case rB_InvalidPrograms => decide +kernel)
    (case sa_InvalidPrograms => k_is)
    (case ga_InvalidPrograms => k_is)
    (case gg_InvalidPrograms => k_is)
    (case nb_InvalidPrograms => k_is)
    (case t1_InvalidPrograms => k_is)
    (case kC_InvalidPrograms => k_is)
    (case eC_InvalidPrograms => k_is)
    (case tC_InvalidPrograms => k_is)
    (case hC_InvalidPrograms => k_is)
    (case xL_InvalidProtocol => k_is)
    (case rB_InvalidProtocol => decide +kernel)
    (case sa_InvalidProtocol => k_is)
    (case ga_InvalidProtocol => k_is)
    (case gg_InvalidProtocol => k_is)
    (case nb_InvalidProtocol => k_is)
    (case t1_InvalidProtocol => k_is)
    (case kC_InvalidProtocol => k_is)
    (case eC_InvalidProtocol => k_is)
    (case tC_InvalidProtocol => k_is)
    (case hC_InvalidProtocol => k_is)
    (case xL_InvalidRows => k_is)
    (case rB_InvalidRows => decide +kernel)
    (case sa_InvalidRows => k_is)
    (case ga_InvalidRows => k_is)
    (case gg_InvalidRows => k_is)
    (case nb_InvalidRows => k_is)
    (case t1_InvalidRows => k_is)
    (case kC_InvalidRows => k_is)
    (case eC_InvalidRows => k_is)
    (case tC_InvalidRows => k_is)
    (case hC_InvalidRows => k_is)
    (case xL_InvalidSession => k_is)
    (case rB_InvalidSession => decide +kernel)
    (case sa_InvalidSession => k_is)
    (case ga_InvalidSession => k_is)
    (case gg_InvalidSession => k_is)
    (case nb_InvalidSession => k_is)
    (case t1_InvalidSession => k_is)
    (case kC_InvalidSession => k_is)
    (case eC_InvalidSession => k_is)
    (case tC_InvalidSession => k_is)
    (case hC_InvalidSession => k_is)
    (case xL_InvalidNumber => k_is)
    (case rB_InvalidNumber => decide +kernel)
    (case sa_InvalidNumber => k_is)
    (case ga_InvalidNumber => k_is)
    (case gg_InvalidNumber => k_is)
    (case nb_InvalidNumber => k_is)
    (case t1_InvalidNumber => k_is)
    (case kC_InvalidNumber => k_is)
    (case eC_InvalidNumber => k_is)
    (case tC_InvalidNumber => k_is)
    (case hC_InvalidNumber => k_is)
    (case xL_InvalidWeaving => k_is)
    (case rB_InvalidWeaving => decide +kernel)
    (case sa_InvalidWeaving => k_is)
    (case ga_InvalidWeaving => k_is)
    (case gg_InvalidWeaving => k_is)
    (case nb_InvalidWeaving => k_is)
    (case t1_InvalidWeaving => k_is)
    (case kC_InvalidWeaving => k_is)
    (case eC_InvalidWeaving => k_is)
    (case tC_InvalidWeaving => k_is)
    (case hC_InvalidWeaving => k_is)
    (case xL_InvalidStore => k_is)
    (case rB_InvalidStore => decide +kernel)
    (case sa_InvalidStore => k_is)
    (case ga_InvalidStore => k_is)
    (case gg_InvalidStore => k_is)
    (case nb_InvalidStore => k_is)
    (case t1_InvalidStore => k_is)
    (case kC_InvalidStore => k_is)
    (case eC_InvalidStore => k_is)
    (case tC_InvalidStore => k_is)
    (case hC_InvalidStore => k_is)
    (case xL_InvalidScene => k_is)
    (case rB_InvalidScene => decide +kernel)
    (case sa_InvalidScene => k_is)
    (case ga_InvalidScene => k_is)
    (case gg_InvalidScene => k_is)
    (case nb_InvalidScene => k_is)
    (case t1_InvalidScene => k_is)
    (case kC_InvalidScene => k_is)
    (case eC_InvalidScene => k_is)
    (case tC_InvalidScene => k_is)
    (case hC_InvalidScene => k_is)
    (case xL_InvalidLog => k_is)
    (case rB_InvalidLog => decide +kernel)
    (case sa_InvalidLog => k_is)
    (case ga_InvalidLog => k_is)
    (case gg_InvalidLog => k_is)
    (case nb_InvalidLog => k_is)
    (case t1_InvalidLog => k_is)
    (case kC_InvalidLog => k_is)
    (case eC_InvalidLog => k_is)
    (case tC_InvalidLog => k_is)
    (case hC_InvalidLog => k_is)
    (case xL_InvalidText => k_is)
    (case rB_InvalidText => decide +kernel)
    (case sa_InvalidText => k_is)
    (case ga_InvalidText => k_is)
    (case gg_InvalidText => k_is)
    (case nb_InvalidText => k_is)
    (case t1_InvalidText => k_is)
    (case kC_InvalidText => k_is)
    (case eC_InvalidText => k_is)
    (case tC_InvalidText => k_is)
    (case hC_InvalidText => k_is)
    (case xL_InvalidCommand => k_is)
    (case rB_InvalidCommand => decide +kernel)
    (case sa_InvalidCommand => k_is)
    (case ga_InvalidCommand => k_is)
    (case gg_InvalidCommand => k_is)
    (case nb_InvalidCommand => k_is)
    (case t1_InvalidCommand => k_is)
    (case kC_InvalidCommand => k_is)
    (case eC_InvalidCommand => k_is)
    (case tC_InvalidCommand => k_is)
    (case hC_InvalidCommand => k_is)
    (case xL_Duplicate => k_is)
    (case rB_Duplicate => decide +kernel)
    (case sa_Duplicate => k_is)
    (case ga_Duplicate => k_is)
    (case gg_Duplicate => k_is)
    (case nb_Duplicate => k_is)
    (case t1_Duplicate => k_is)
    (case kC_Duplicate => k_is)
    (case eC_Duplicate => k_is)
    (case tC_Duplicate => k_is)
    (case hC_Duplicate => k_is)
    (case xL_UnknownPart => k_is)
    (case rB_UnknownPart => decide +kernel)
    (case sa_UnknownPart => k_is)
    (case ga_UnknownPart => k_is)
    (case gg_UnknownPart => k_is)
    (case nb_UnknownPart => k_is)
    (case t1_UnknownPart => k_is)
    (case kC_UnknownPart => k_is)
    (case eC_UnknownPart => k_is)
    (case tC_UnknownPart => k_is)
    (case hC_UnknownPart => k_is)
    (case xL_UnknownMode => k_is)
    (case rB_UnknownMode => decide +kernel)
    (case sa_UnknownMode => k_is)
    (case ga_UnknownMode => k_is)
    (case gg_UnknownMode => k_is)
    (case nb_UnknownMode => k_is)
    (case t1_UnknownMode => k_is)
    (case kC_UnknownMode => k_is)
    (case eC_UnknownMode => k_is)
    (case tC_UnknownMode => k_is)
    (case hC_UnknownMode => k_is)
    (case xL_UnknownEntry => k_is)
    (case rB_UnknownEntry => decide +kernel)
    (case sa_UnknownEntry => k_is)
    (case ga_UnknownEntry => k_is)
    (case gg_UnknownEntry => k_is)
    (case nb_UnknownEntry => k_is)
    (case t1_UnknownEntry => k_is)
    (case kC_UnknownEntry => k_is)
    (case eC_UnknownEntry => k_is)
    (case tC_UnknownEntry => k_is)
    (case hC_UnknownEntry => k_is)
    (case xL_NameTaken => k_is)
    (case rB_NameTaken => decide +kernel)
    (case sa_NameTaken => k_is)
    (case ga_NameTaken => k_is)
    (case gg_NameTaken => k_is)
    (case nb_NameTaken => k_is)
    (case t1_NameTaken => k_is)
    (case kC_NameTaken => k_is)
    (case eC_NameTaken => k_is)
    (case tC_NameTaken => k_is)
    (case hC_NameTaken => k_is)
    (case xL_Overlap => k_is)
    (case rB_Overlap => decide +kernel)
    (case sa_Overlap => k_is)
    (case ga_Overlap => k_is)
    (case gg_Overlap => k_is)
    (case nb_Overlap => k_is)
    (case t1_Overlap => k_is)
    (case kC_Overlap => k_is)
    (case eC_Overlap => k_is)
    (case tC_Overlap => k_is)
    (case hC_Overlap => k_is)
    (case xL_NotInside => k_is)
    (case rB_NotInside => decide +kernel)
    (case sa_NotInside => k_is)
    (case ga_NotInside => k_is)
    (case gg_NotInside => k_is)
    (case nb_NotInside => k_is)
    (case t1_NotInside => k_is)
    (case kC_NotInside => k_is)
    (case eC_NotInside => k_is)
    (case tC_NotInside => k_is)
    (case hC_NotInside => k_is)
    (case xL_NotNeighbours => k_is)
    (case rB_NotNeighbours => decide +kernel)
    (case sa_NotNeighbours => k_is)
    (case ga_NotNeighbours => k_is)
    (case gg_NotNeighbours => k_is)
    (case nb_NotNeighbours => k_is)
    (case t1_NotNeighbours => k_is)
    (case kC_NotNeighbours => k_is)
    (case eC_NotNeighbours => k_is)
    (case tC_NotNeighbours => k_is)
    (case hC_NotNeighbours => k_is)
    (case xL_NoProgram => k_is)
    (case rB_NoProgram => decide +kernel)
    (case sa_NoProgram => k_is)
    (case ga_NoProgram => k_is)
    (case gg_NoProgram => k_is)
    (case nb_NoProgram => k_is)
    (case t1_NoProgram => k_is)
    (case kC_NoProgram => k_is)
    (case eC_NoProgram => k_is)
    (case tC_NoProgram => k_is)
    (case hC_NoProgram => k_is)
    (case xL_TooMany => k_is)
    (case rB_TooMany => decide +kernel)
    (case sa_TooMany => k_is)
    (case ga_TooMany => k_is)
    (case gg_TooMany => k_is)
    (case nb_TooMany => k_is)
    (case t1_TooMany => k_is)
    (case kC_TooMany => k_is)
    (case eC_TooMany => k_is)
    (case tC_TooMany => k_is)
    (case hC_TooMany => k_is)
    (case xL_Ended => k_is)
    (case rB_Ended => decide +kernel)
    (case sa_Ended => k_is)
    (case ga_Ended => k_is)
    (case gg_Ended => k_is)
    (case nb_Ended => k_is)
    (case t1_Ended => k_is)
    (case kC_Ended => k_is)
    (case eC_Ended => k_is)
    (case tC_Ended => k_is)
    (case hC_Ended => k_is)
    (case xL_Waiting => k_is)
    (case rB_Waiting => decide +kernel)
    (case sa_Waiting => k_is)
    (case ga_Waiting => k_is)
    (case gg_Waiting => k_is)
    (case nb_Waiting => k_is)
    (case t1_Waiting => k_is)
    (case kC_Waiting => k_is)
    (case eC_Waiting => k_is)
    (case tC_Waiting => k_is)
    (case hC_Waiting => k_is)
    (case q_PartsError => first | k_exc | kx_is | k_is | rfl)
    (case kp_PartsError => first | k_is | rfl)
    (case q_NothingBad => first | k_exc | kx_is | k_is | rfl)
    (case kp_NothingBad => first | k_is | rfl)
    (case q_NotRight => first | k_exc | kx_is | k_is | rfl)
    (case kp_NotRight => first | k_is | rfl)
    (case q_NoStore => first | k_exc | kx_is | k_is | rfl)
    (case kp_NoStore => first | k_is | rfl)
    (case q_NothingToUndo => first | k_exc | kx_is | k_is | rfl)
    (case kp_NothingToUndo => first | k_is | rfl)
    (case q_NothingToRedo => first | k_exc | kx_is | k_is | rfl)
    (case kp_NothingToRedo => first | k_is | rfl)
    (case ke => rfl)
    (case tab => rfl)
    (case tabP => rfl)
    (case ups => rfl)
    (case z_len => k_is)
    (case z_max => k_is)
    (case z_isinstance => k_is)
    (case z_range => k_is)
    (case z_ValueError => k_is)
    (case z_KeyError => k_is)
    (case z_IndexError => k_is)
    (case z_TypeError => k_is)
    (case z_min => k_is)
    (case z_bool => k_is)
#print axioms PySem.Challenge.cw_hungparts_k04_exceptions_and_their_field_holds

