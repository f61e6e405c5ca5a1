import PyProof.Rows.All
import Wide.All
import OpenK.AllK
import Wide.FinOn
import HandS.ForMost
import HandS.ForExc
import HandS.IsInst
import HandS.Walk
import HandS.Codes
import HandS.SortKw
import HandS.TryMany
import HandS.ExcInit
import HandS.ExcField
import KE.DatumOrd
import HandS.More
import HandS.CallSlots
import HandS.Defaults
import HandS.TupAny
import HandS.ExcValue
import KE.KExcIs
import HandS.HeadHook1
import HandS.DictComp
import KE.KStateDown
import HandS.WordsExc
import HandS.Head0
import HandS.Head1
import HandS.Head2
import HandS.HeadEnd
import HandS.HeadHook2
import PySem.Challenge.RW_hungparts_k04_exceptions_and_their_field
set_option Elab.async false
set_option linter.all false
set_option maxRecDepth 100000
set_option maxHeartbeats 4000000

namespace My
open PySem L2
def top (i : Nat) : Stmt := PySem.Challenge.pw_hungparts_k04_exceptions_and_their_field.main.body.getD i (.Pass ⟨0, 0, 0, 0⟩)
abbrev s_InvalidName_init : Stmt := inClass (top 2) 0
theorem sc_InvalidName_init : FnScope ["self", "value"] ["self", "value"] (defScope s_InvalidName_init) := ⟨rfl, rfl, rfl, by decide +kernel, rfl, by decide +kernel, by decide +kernel⟩
abbrev s_InvalidKey_init : Stmt := inClass (top 3) 0
theorem sc_InvalidKey_init : FnScope ["self", "value"] ["self", "value"] (defScope s_InvalidKey_init) := ⟨rfl, rfl, rfl, by decide +kernel, rfl, by decide +kernel, by decide +kernel⟩
abbrev s_InvalidSpan_init : Stmt := inClass (top 4) 0
theorem sc_InvalidSpan_init : FnScope ["self", "value"] ["self", "value"] (defScope s_InvalidSpan_init) := ⟨rfl, rfl, rfl, by decide +kernel, rfl, by decide +kernel, by decide +kernel⟩
abbrev s_InvalidSpans_init : Stmt := inClass (top 5) 0
theorem sc_InvalidSpans_init : FnScope ["self", "value"] ["self", "value"] (defScope s_InvalidSpans_init) := ⟨rfl, rfl, rfl, by decide +kernel, rfl, by decide +kernel, by decide +kernel⟩
abbrev s_InvalidCatalog_init : Stmt := inClass (top 6) 0
theorem sc_InvalidCatalog_init : FnScope ["self", "value"] ["self", "value"] (defScope s_InvalidCatalog_init) := ⟨rfl, rfl, rfl, by decide +kernel, rfl, by decide +kernel, by decide +kernel⟩
abbrev s_InvalidChange_init : Stmt := inClass (top 7) 0
theorem sc_InvalidChange_init : FnScope ["self", "value"] ["self", "value"] (defScope s_InvalidChange_init) := ⟨rfl, rfl, rfl, by decide +kernel, rfl, by decide +kernel, by decide +kernel⟩
abbrev s_InvalidModes_init : Stmt := inClass (top 8) 0
theorem sc_InvalidModes_init : FnScope ["self", "value"] ["self", "value"] (defScope s_InvalidModes_init) := ⟨rfl, rfl, rfl, by decide +kernel, rfl, by decide +kernel, by decide +kernel⟩
abbrev s_InvalidClash_init : Stmt := inClass (top 9) 0
theorem sc_InvalidClash_init : FnScope ["self", "value"] ["self", "value"] (defScope s_InvalidClash_init) := ⟨rfl, rfl, rfl, by decide +kernel, rfl, by decide +kernel, by decide +kernel⟩
abbrev s_InvalidStrengths_init : Stmt := inClass (top 10) 0
theorem sc_InvalidStrengths_init : FnScope ["self", "value"] ["self", "value"] (defScope s_InvalidStrengths_init) := ⟨rfl, rfl, rfl, by decide +kernel, rfl, by decide +kernel, by decide +kernel⟩
abbrev s_InvalidProgram_init : Stmt := inClass (top 11) 0
theorem sc_InvalidProgram_init : FnScope ["self", "value"] ["self", "value"] (defScope s_InvalidProgram_init) := ⟨rfl, rfl, rfl, by decide +kernel, rfl, by decide +kernel, by decide +kernel⟩
abbrev s_InvalidPrograms_init : Stmt := inClass (top 12) 0
theorem sc_InvalidPrograms_init : FnScope ["self", "value"] ["self", "value"] (defScope s_InvalidPrograms_init) := ⟨rfl, rfl, rfl, by decide +kernel, rfl, by decide +kernel, by decide +kernel⟩
abbrev s_InvalidProtocol_init : Stmt := inClass (top 13) 0
theorem sc_InvalidProtocol_init : FnScope ["self", "value"] ["self", "value"] (defScope s_InvalidProtocol_init) := ⟨rfl, rfl, rfl, by decide +kernel, rfl, by decide +kernel, by decide +kernel⟩
abbrev s_InvalidRows_init : Stmt := inClass (top 14) 0
theorem sc_InvalidRows_init : FnScope ["self", "value"] ["self", "value"] (defScope s_InvalidRows_init) := ⟨rfl, rfl, rfl, by decide +kernel, rfl, by decide +kernel, by decide +kernel⟩
abbrev s_InvalidSession_init : Stmt := inClass (top 15) 0
theorem sc_InvalidSession_init : FnScope ["self", "value"] ["self", "value"] (defScope s_InvalidSession_init) := ⟨rfl, rfl, rfl, by decide +kernel, rfl, by decide +kernel, by decide +kernel⟩
abbrev s_InvalidNumber_init : Stmt := inClass (top 16) 0
theorem sc_InvalidNumber_init : FnScope ["self", "value"] ["self", "value"] (defScope s_InvalidNumber_init) := ⟨rfl, rfl, rfl, by decide +kernel, rfl, by decide +kernel, by decide +kernel⟩
abbrev s_InvalidWeaving_init : Stmt := inClass (top 17) 0
theorem sc_InvalidWeaving_init : FnScope ["self", "value"] ["self", "value"] (defScope s_InvalidWeaving_init) := ⟨rfl, rfl, rfl, by decide +kernel, rfl, by decide +kernel, by decide +kernel⟩
abbrev s_InvalidStore_init : Stmt := inClass (top 18) 0
theorem sc_InvalidStore_init : FnScope ["self", "value"] ["self", "value"] (defScope s_InvalidStore_init) := ⟨rfl, rfl, rfl, by decide +kernel, rfl, by decide +kernel, by decide +kernel⟩
abbrev s_InvalidScene_init : Stmt := inClass (top 19) 0
theorem sc_InvalidScene_init : FnScope ["self", "value"] ["self", "value"] (defScope s_InvalidScene_init) := ⟨rfl, rfl, rfl, by decide +kernel, rfl, by decide +kernel, by decide +kernel⟩
abbrev s_InvalidLog_init : Stmt := inClass (top 20) 0
theorem sc_InvalidLog_init : FnScope ["self", "value"] ["self", "value"] (defScope s_InvalidLog_init) := ⟨rfl, rfl, rfl, by decide +kernel, rfl, by decide +kernel, by decide +kernel⟩
abbrev s_InvalidText_init : Stmt := inClass (top 21) 0
theorem sc_InvalidText_init : FnScope ["self", "value"] ["self", "value"] (defScope s_InvalidText_init) := ⟨rfl, rfl, rfl, by decide +kernel, rfl, by decide +kernel, by decide +kernel⟩
abbrev s_InvalidCommand_init : Stmt := inClass (top 22) 0
theorem sc_InvalidCommand_init : FnScope ["self", "value"] ["self", "value"] (defScope s_InvalidCommand_init) := ⟨rfl, rfl, rfl, by decide +kernel, rfl, by decide +kernel, by decide +kernel⟩
abbrev s_Duplicate_init : Stmt := inClass (top 23) 0
theorem sc_Duplicate_init : FnScope ["self", "name"] ["self", "name"] (defScope s_Duplicate_init) := ⟨rfl, rfl, rfl, by decide +kernel, rfl, by decide +kernel, by decide +kernel⟩
abbrev s_UnknownPart_init : Stmt := inClass (top 24) 0
theorem sc_UnknownPart_init : FnScope ["self", "name"] ["self", "name"] (defScope s_UnknownPart_init) := ⟨rfl, rfl, rfl, by decide +kernel, rfl, by decide +kernel, by decide +kernel⟩
abbrev s_UnknownMode_init : Stmt := inClass (top 25) 0
theorem sc_UnknownMode_init : FnScope ["self", "name"] ["self", "name"] (defScope s_UnknownMode_init) := ⟨rfl, rfl, rfl, by decide +kernel, rfl, by decide +kernel, by decide +kernel⟩
abbrev s_UnknownEntry_init : Stmt := inClass (top 26) 0
theorem sc_UnknownEntry_init : FnScope ["self", "name"] ["self", "name"] (defScope s_UnknownEntry_init) := ⟨rfl, rfl, rfl, by decide +kernel, rfl, by decide +kernel, by decide +kernel⟩
abbrev s_NameTaken_init : Stmt := inClass (top 27) 0
theorem sc_NameTaken_init : FnScope ["self", "name"] ["self", "name"] (defScope s_NameTaken_init) := ⟨rfl, rfl, rfl, by decide +kernel, rfl, by decide +kernel, by decide +kernel⟩
abbrev s_Overlap_init : Stmt := inClass (top 28) 0
theorem sc_Overlap_init : FnScope ["self", "name"] ["self", "name"] (defScope s_Overlap_init) := ⟨rfl, rfl, rfl, by decide +kernel, rfl, by decide +kernel, by decide +kernel⟩
abbrev s_NotInside_init : Stmt := inClass (top 29) 0
theorem sc_NotInside_init : FnScope ["self", "at"] ["self", "at"] (defScope s_NotInside_init) := ⟨rfl, rfl, rfl, by decide +kernel, rfl, by decide +kernel, by decide +kernel⟩
abbrev s_NotNeighbours_init : Stmt := inClass (top 30) 0
theorem sc_NotNeighbours_init : FnScope ["self", "name"] ["self", "name"] (defScope s_NotNeighbours_init) := ⟨rfl, rfl, rfl, by decide +kernel, rfl, by decide +kernel, by decide +kernel⟩
abbrev s_NoProgram_init : Stmt := inClass (top 31) 0
theorem sc_NoProgram_init : FnScope ["self", "kind"] ["self", "kind"] (defScope s_NoProgram_init) := ⟨rfl, rfl, rfl, by decide +kernel, rfl, by decide +kernel, by decide +kernel⟩
abbrev s_TooMany_init : Stmt := inClass (top 32) 0
theorem sc_TooMany_init : FnScope ["self", "bound"] ["self", "bound"] (defScope s_TooMany_init) := ⟨rfl, rfl, rfl, by decide +kernel, rfl, by decide +kernel, by decide +kernel⟩
abbrev s_Ended_init : Stmt := inClass (top 33) 0
theorem sc_Ended_init : FnScope ["self", "number"] ["self", "number"] (defScope s_Ended_init) := ⟨rfl, rfl, rfl, by decide +kernel, rfl, by decide +kernel, by decide +kernel⟩
abbrev s_Waiting_init : Stmt := inClass (top 34) 0
theorem sc_Waiting_init : FnScope ["self", "number"] ["self", "number"] (defScope s_Waiting_init) := ⟨rfl, rfl, rfl, by decide +kernel, rfl, by decide +kernel, by decide +kernel⟩
abbrev s_law_cell : Stmt := top 41
theorem sc_law_cell : FnScope ["_law_script", "_law_k"] ["_law_script", "_law_k"] (defScope s_law_cell) := ⟨rfl, rfl, rfl, by decide +kernel, rfl, by decide +kernel, by decide +kernel⟩
abbrev s_law_box : Stmt := top 42
theorem sc_law_box : FnScope ["_law_cell_here"] ["_law_cell_here"] (defScope s_law_box) := ⟨rfl, rfl, rfl, by decide +kernel, rfl, by decide +kernel, by decide +kernel⟩
abbrev s_law_take : Stmt := top 43
theorem sc_law_take : FnScope ["_law_box_here", "_law_many", "_law_digit", "_law_number"] ["_law_box_here", "_law_many"] (defScope s_law_take) := ⟨rfl, rfl, rfl, by decide +kernel, rfl, by decide +kernel, by decide +kernel⟩
abbrev s_law_made : Stmt := top 44
theorem sc_law_made : FnScope ["_law_thing", "_law_found"] ["_law_thing"] (defScope s_law_made) := ⟨rfl, rfl, rfl, by decide +kernel, rfl, by decide +kernel, by decide +kernel⟩
abbrev s_law_classes : Stmt := top 45
theorem sc_law_classes : FnScope ["_law_error", "_law_found", "_law_k"] ["_law_error"] (defScope s_law_classes) := ⟨rfl, rfl, rfl, by decide +kernel, rfl, by decide +kernel, by decide +kernel⟩
abbrev s_law_fields : Stmt := top 46
theorem sc_law_fields : FnScope ["_law_made_here", "_law_told"] ["_law_made_here"] (defScope s_law_fields) := ⟨rfl, rfl, rfl, by decide +kernel, rfl, by decide +kernel, by decide +kernel⟩
abbrev s_law_under : Stmt := top 47
theorem sc_law_under : FnScope ["_law_error", "_law_above", "_law_beside"] ["_law_error"] (defScope s_law_under) := ⟨rfl, rfl, rfl, by decide +kernel, rfl, by decide +kernel, by decide +kernel⟩
abbrev s_law : Stmt := top 48
theorem sc_law : FnScope ["_law_script", "_law_k", "_law_box_here", "_law_thing", "_law_made_here", "_law_told", "_law_at", "_law_item"] ["_law_script"] (defScope s_law) := ⟨rfl, rfl, rfl, by decide +kernel, rfl, by decide +kernel, by decide +kernel⟩

/-! ### further rules -/
section
variable {X : Cx}
theorem holdAll_ints {h : Heap} : ∀ {us : List Value} {ns : List Int}, Vals (ns.map V.int) us → PySem.W.HoldAll (α := Int) h us ns
  | _, [], .nil => ⟨_, .nil⟩
  | _, n :: r, .cons ⟨t, e⟩ k => by
    subst e
    obtain ⟨as, q⟩ := holdAll_ints (h := h) k
    exact ⟨_, .cons (.int n t) q⟩
theorem holds_int {h : Heap} {v : Value} {n : Int} (H : PySem.W.Holds (α := Int) h v n) : ∃ t, v = .int n t := by
  obtain ⟨as, r⟩ := H
  cases r
  exact ⟨_, rfl⟩
theorem maxOf_ints : ∀ (ys : List Int) (y : Int), PySem.W.maxOf y ys ∈ y :: ys ∧ ∀ n ∈ y :: ys, n ≤ PySem.W.maxOf y ys := by
  intro ys
  induction ys with
  | nil =>
    intro y
    exact ⟨List.mem_cons_self, fun n hn => by cases List.mem_singleton.mp hn; exact Int.le_refl _⟩
  | cons z r ih =>
    intro y
    have e : PySem.W.maxOf y (z :: r) = PySem.W.maxOf (if y < z then z else y) r := by
      show List.foldl _ (if decide (y < z) = true then z else y) r = _
      simp only [decide_eq_true_eq]
      rfl
    rw [e]
    obtain ⟨h1, h2⟩ := ih (if y < z then z else y)
    have hy := h2 _ List.mem_cons_self
    have hyz : y ≤ (if y < z then z else y) ∧ z ≤ (if y < z then z else y) := by
      split <;> omega
    refine ⟨?_, fun n hn => ?_⟩
    · rcases List.mem_cons.mp h1 with q | q
      · rw [q]
        split <;> simp
      · exact List.mem_cons_of_mem _ (List.mem_cons_of_mem _ q)
    · rcases List.mem_cons.mp hn with rfl | hn
      · omega
      · rcases List.mem_cons.mp hn with rfl | hn
        · omega
        · exact h2 n (List.mem_cons_of_mem _ hn)
theorem minOf_ints : ∀ (ys : List Int) (y : Int), PySem.W.minOf y ys ∈ y :: ys ∧ ∀ n ∈ y :: ys, PySem.W.minOf y ys ≤ n := by
  intro ys
  induction ys with
  | nil =>
    intro y
    exact ⟨List.mem_cons_self, fun n hn => by cases List.mem_singleton.mp hn; exact Int.le_refl _⟩
  | cons z r ih =>
    intro y
    have e : PySem.W.minOf y (z :: r) = PySem.W.minOf (if z < y then z else y) r := by
      show List.foldl _ (if decide (z < y) = true then z else y) r = _
      simp only [decide_eq_true_eq]
      rfl
    rw [e]
    obtain ⟨h1, h2⟩ := ih (if z < y then z else y)
    have hy := h2 _ List.mem_cons_self
    have hyz : (if z < y then z else y) ≤ y ∧ (if z < y then z else y) ≤ z := by
      split <;> omega
    refine ⟨?_, fun n hn => ?_⟩
    · rcases List.mem_cons.mp h1 with q | q
      · rw [q]
        split <;> simp
      · exact List.mem_cons_of_mem _ (List.mem_cons_of_mem _ q)
    · rcases List.mem_cons.mp hn with rfl | hn
      · omega
      · rcases List.mem_cons.mp hn with rfl | hn
        · omega
        · exact h2 n (List.mem_cons_of_mem _ hn)
/-- max(xs, default=d), xs a list of whole numbers -/
def rMaxD (K : PySem.W.Frag) : List V → List V → Hp → VK → Prop := fun xs zs H Q => ∃ (a : Addr) (ns : List Int) (d : V), xs = [.ref a] ∧ zs = [d] ∧ SqL K H a (ns.map V.int) ∧ (ns = [] → Q d H) ∧ ∀ m, m ∈ ns → (∀ n ∈ ns, n ≤ m) → Q (.int m) H
def rMinD (K : PySem.W.Frag) : List V → List V → Hp → VK → Prop := fun xs zs H Q => ∃ (a : Addr) (ns : List Int) (d : V), xs = [.ref a] ∧ zs = [d] ∧ SqL K H a (ns.map V.int) ∧ (ns = [] → Q d H) ∧ ∀ m, m ∈ ns → (∀ n ∈ ns, m ≤ n) → Q (.int m) H
theorem cr_maxD (hc : X.calm = true) (hu : X.A.units + 64 < cLine) : CallRK X (.builtin "max") ["default"] (rMaxD X.K) := by
  intro pins s σ H xs zs us ws Q I rx rz h
  obtain ⟨a, ns, d, rfl, rfl, hS, h0, h1⟩ := h
  obtain ⟨its, rv, pl, _⟩ := I.list hS
  obtain ⟨u, rfl, ru⟩ := vals1 rx
  obtain ⟨dv, rfl, rd⟩ := vals1 rz
  cases ru
  refine PySem.W.max_list_datum_default (α := Int) (xs := ns) (I.ok.hd hc) pl.isList (holdAll_ints (by simpa using rv)) (by show X.A.units + 1 + 0 < cLine; omega) (fun e h' tk k => ⟨d, H, I.kept k, rd, h0 e⟩) fun y ys i v h' tk e hi hh k => ?_
  subst e
  obtain ⟨t, rfl⟩ := holds_int hh
  have m := maxOf_ints ys y
  exact ⟨.int _, H, I.kept k, ⟨t, rfl⟩, h1 _ m.1 m.2⟩
theorem cr_minD (hc : X.calm = true) (hu : X.A.units + 64 < cLine) : CallRK X (.builtin "min") ["default"] (rMinD X.K) := by
  intro pins s σ H xs zs us ws Q I rx rz h
  obtain ⟨a, ns, d, rfl, rfl, hS, h0, h1⟩ := h
  obtain ⟨its, rv, pl, _⟩ := I.list hS
  obtain ⟨u, rfl, ru⟩ := vals1 rx
  obtain ⟨dv, rfl, rd⟩ := vals1 rz
  cases ru
  refine PySem.W.min_list_datum_default (α := Int) (xs := ns) (I.ok.hd hc) pl.isList (holdAll_ints (by simpa using rv)) (by show X.A.units + 1 + 0 < cLine; omega) (fun e h' tk k => ⟨d, H, I.kept k, rd, h0 e⟩) fun y ys i v h' tk e hi hh k => ?_
  subst e
  obtain ⟨t, rfl⟩ := holds_int hh
  have m := minOf_ints ys y
  exact ⟨.int _, H, I.kept k, ⟨t, rfl⟩, h1 _ m.1 m.2⟩
/-- what is surely the same: a flat value, or one object -/
def sureV (v : V) : Bool := flatB v || (match v with | .ref _ => true | _ => false)
theorem sure_eq {A : Around} {s : Shared} {v : V} {u u' : Value} (r : RelV v u) (r' : RelV v u') (f : sureV v = true) : SeqAt.EqAt A s u u' true := by
  cases v with
  | ref a =>
    cases (show u = Value.ref a from r)
    cases (show u' = Value.ref a from r')
    exact SeqAt.EqAt.same _
  | ty n => cases f
  | flt b => cases f
  | _ => exact eqAt_same r r' rfl
/-- two lists of the same items: they are not unlike -/
def rNeS (K : PySem.W.Frag) : R2 := fun x y H Q => ∃ (a b : Addr) (xs : List V), x = .ref a ∧ y = .ref b ∧ SqL K H a xs ∧ SqL K H b xs ∧ xs.all sureV = true ∧ Q (.bl false) H
theorem op_neS (hu : X.A.units + 64 < cLine) : OpR X (compareOp .NotEq) (rNeS X.K) := by
  intro pins s σ H x y v u Q I rx ry h
  obtain ⟨a, b, xs, rfl, rfl, ha, hb, hf, q⟩ := h
  cases (show v = Value.ref a from rx)
  cases (show u = Value.ref b from ry)
  obtain ⟨us, r1, p1, _⟩ := I.list ha
  obtain ⟨ws, r2, p2, _⟩ := I.list hb
  have hl : us.toArray.size = ws.toArray.size := by
    rw [List.size_toArray, List.size_toArray, ← r1.length, ← r2.length]
  refine SeqAt.RcNeAt.lists (e := fun _ => true) p1.isList p2.isList hl (by omega) (fun j h1 h2 => ?_) X.prog X.w _ _ ?_
  · have hj : j < xs.length := by
      rw [r1.length]
      simpa using h1
    obtain ⟨u1, e1, q1⟩ := r1.get (List.getElem?_eq_getElem hj)
    obtain ⟨u2, e2, q2⟩ := r2.get (List.getElem?_eq_getElem hj)
    have k1 : us.toArray[j] = u1 := by
      have := List.getElem?_eq_some_iff.mp e1
      simpa using this.2
    have k2 : ws.toArray[j] = u2 := by
      have := List.getElem?_eq_some_iff.mp e2
      simpa using this.2
    rw [k1, k2]
    exact sure_eq q1 q2 (List.all_eq_true.mp hf _ (List.getElem_mem hj))
  · have ea : ((List.range us.toArray.size).all fun _ => true) = true := List.all_eq_true.mpr fun _ _ => rfl
    rw [ea]
    exact ⟨.bl false, H, I, rfl, q⟩
end
/-- the drawing box at p: three ints, drawn n times at most -/
def BoxAt (H : Hp) (p : Addr) (n : Nat) : Prop := ∃ d s c : Int, H p = some (.lst [.int d, .int s, .int c]) ∧ 0 ≤ d ∧ 0 ≤ s ∧ s < 2147483629 ∧ 0 ≤ c ∧ c ≤ n
/-- H0: all that is known beside the box -/
structure BoxIn (H0 H : Hp) (p : Addr) (n : Nat) : Prop where
  same : Same H0 H
  free : H0 p = none
  box : BoxAt H p n
theorem BoxAt.mono {H : Hp} {p : Addr} {n m : Nat} (b : BoxAt H p n) (h : n ≤ m) : BoxAt H p m := by
  obtain ⟨d, s, c, h1, h2, h3, h4, h5, h6⟩ := b
  exact ⟨d, s, c, h1, h2, h3, h4, h5, by omega⟩
theorem BoxIn.mono {H0 H : Hp} {p : Addr} {n m : Nat} (b : BoxIn H0 H p n) (h : n ≤ m) : BoxIn H0 H p m := ⟨b.same, b.free, b.box.mono h⟩
/-- a pure step behind it -/
theorem BoxIn.keep {H0 H H' : Hp} {p : Addr} {n : Nat} (b : BoxIn H0 H p n) (s : Same H H') : BoxIn H0 H' p n := by
  obtain ⟨d, s', c, h1, h⟩ := b.box
  exact ⟨b.same.trans s, b.free, d, s', c, s _ _ h1, h⟩
/-- a new object becomes known -/
theorem BoxIn.new {H0 H : Hp} {p q : Addr} {n : Nat} {o : HO} (b : BoxIn H0 H p n) (hq : H q = none) : BoxIn (upd H0 q o) (upd H q o) p n ∧ Same H0 (upd H0 q o) := by
  obtain ⟨d, s', c, h1, h⟩ := b.box
  have npq : p ≠ q := ne_of_none h1 hq
  refine ⟨⟨fun x u e => ?_, by rw [upd_ne npq]; exact b.free, d, s', c, by rw [upd_ne npq]; exact h1, h⟩, fun x u e => ?_⟩
  · by_cases hx : x = q
    · subst hx
      rw [upd_same] at e ⊢
      exact e
    · rw [upd_ne hx] at e ⊢
      exact b.same _ _ e
  · rw [upd_ne (ne_of_none e (b.same.free hq))]
    exact e
/-- all that is tracked now, the box aside, is known -/
def but (H : Hp) (p : Addr) : Hp := fun q => if q = p then none else H q
theorem but_same {H : Hp} {p : Addr} : but H p p = none := by unfold but; rw [if_pos rfl]
theorem but_ne {H : Hp} {p q : Addr} (h : q ≠ p) : but H p q = H q := by unfold but; rw [if_neg h]
theorem BoxIn.all {H0 H : Hp} {p : Addr} {n : Nat} (b : BoxIn H0 H p n) : BoxIn (but H p) H p n ∧ Same H0 (but H p) := by
  refine ⟨⟨fun x u e => ?_, but_same, b.box⟩, fun x u e => ?_⟩
  · by_cases hx : x = p
    · subst hx
      rw [but_same] at e
      cases e
    · rw [but_ne hx] at e
      exact e
  · have hx : x ≠ p := fun q => by
      rw [q, b.free] at e
      cases e
    rw [but_ne hx]
    exact b.same _ _ e

def sp_law_cell (K : PySem.W.Frag) : Sp := fun vs H Q _ => ∃ (a : Addr) (ns : List Int) (k : Int), vs = [.ref a, .int k] ∧ SqL K H a (ns.map V.int) ∧ 0 ≤ k ∧ ∀ z, Q (.int z) H
def sp_law_box : Sp := fun vs H Q _ => ∃ z : Int, vs = [.int z] ∧ ∀ p o, H p = none → BoxAt (upd H p o) p 0 → Q (.ref p) (upd H p o)
def sp_law_take : Sp := fun vs H Q _ => ∃ (H0 : Hp) (p : Addr) (n : Nat) (m : Int), vs = [.ref p, .int m] ∧ BoxIn H0 H p n ∧ n < 1000000 ∧ 0 < m ∧ m < 1000000 ∧
  ∀ (z : Int) (H' : Hp), 0 ≤ z → z < m → BoxIn H0 H' p (n + 1) → Q (.int z) H'
/-- what the law's promise is: a list of at most 63 ints is handed in, True comes out -/
def sp_law (K : PySem.W.Frag) : Sp := fun vs H Q _ => ∃ (a : Addr) (ns : List Int), vs = [.ref a] ∧ SqL K H a (ns.map V.int) ∧ ns.length ≤ 63 ∧ ∀ H', Q (.bl true) H'
/-! ### values as data -/
theorem same_t {K : PySem.W.Frag} {H H' : Hp} {a : Addr} {xs : List V} (e : Same H H') (h : SqT K H a xs) : SqT K H' a xs := by
  rcases h with (h | ⟨o, h⟩) | h
  · exact .inl (.inl (e _ _ h))
  · exact .inl (.inr ⟨o, e _ _ h⟩)
  · exact .inr h
mutual
theorem dp_mono {K : PySem.W.Frag} {H H' : Hp} (e : Same H H') : ∀ {v : V} {d : PyData}, Dp K H v d → Dp K H' v d
  | _, _, .non => .non
  | _, _, .bl b => .bl b
  | _, _, .int i => .int i
  | _, _, .str x => .str x
  | _, _, .lst h a => .lst (e.seq h) (dpAll_mono e a)
  | _, _, .tup h a => .tup (same_t e h) (dpAll_mono e a)
theorem dpAll_mono {K : PySem.W.Frag} {H H' : Hp} (e : Same H H') : ∀ {vs : List V} {ds : List PyData}, DpAll K H vs ds → DpAll K H' vs ds
  | _, _, .nil => .nil
  | _, _, .cons a b => .cons (dp_mono e a) (dpAll_mono e b)
end
theorem dpAll_get {K : PySem.W.Frag} {H : Hp} : ∀ {vs : List V} {ds : List PyData} {i : Nat} {v : V}, DpAll K H vs ds → vs[i]? = some v → ∃ d, ds[i]? = some d ∧ Dp K H v d
  | _, _, 0, _, .cons a _, h => ⟨_, rfl, by cases h; exact a⟩
  | _, _, i + 1, _, .cons _ b, h => dpAll_get (i := i) b h
theorem dpAll_len {K : PySem.W.Frag} {H : Hp} : ∀ {vs : List V} {ds : List PyData}, DpAll K H vs ds → vs.length = ds.length
  | _, _, .nil => rfl
  | _, _, .cons _ b => congrArg (· + 1) (dpAll_len b)
theorem dpAll_strs {K : PySem.W.Frag} {H : Hp} : ∀ ss : List Str, DpAll K H (ss.map V.str) (ss.map PyData.str)
  | [] => .nil
  | s :: r => .cons (.str s) (dpAll_strs r)
theorem dpAll_bls {K : PySem.W.Frag} {H : Hp} : ∀ bs : List Bool, DpAll K H (bs.map V.bl) (bs.map PyData.bool)
  | [] => .nil
  | b :: r => .cons (.bl b) (dpAll_bls r)
theorem eqv_nil (ds : List PyData) : PyData.eqv (.list ds) (.list []) = ds.isEmpty := by
  cases ds with
  | nil => simp [PyData.eqv, PyData.eqvAll]
  | cons d r => simp [PyData.eqv, PyData.eqvAll]
theorem shaped_nil : SeqAt.shaped (.list []) = true := by decide +kernel
theorem canAll_mem {ds : List PyData} : PyData.canLayAll0 ds = true ↔ ∀ d ∈ ds, d.canLay0 = true := by
  induction ds with
  | nil => simp [PyData.canLayAll0]
  | cons d r ih => simp [PyData.canLayAll0, ih]
theorem depthAll_le {ds : List PyData} {n : Nat} (h : ∀ d ∈ ds, d.depth ≤ n) : PyData.depthAll ds ≤ n := by
  induction ds with
  | nil => simp [PyData.depthAll]
  | cons d r ih =>
    have h1 := h d (List.mem_cons_self)
    have h2 := ih fun x hx => h x (List.mem_cons_of_mem _ hx)
    simp only [PyData.depthAll]
    omega
theorem depthAll_mem {ds : List PyData} {d : PyData} (h : d ∈ ds) : d.depth ≤ PyData.depthAll ds := by
  induction ds with
  | nil => cases h
  | cons e r ih =>
    simp only [PyData.depthAll]
    rcases List.mem_cons.mp h with rfl | h
    · omega
    · have := ih h
      omega
theorem shaped_iff {d : PyData} : SeqAt.shaped d = true ↔ d.canLay0 = true ∧ d.depth ≤ 64 := by
  unfold SeqAt.shaped
  rw [Bool.and_eq_true, decide_eq_true_iff]
/-- a list of data that are d deep at most -/
theorem shaped_list {ds : List PyData} {n : Nat} (hn : n < 64) (h : ∀ d ∈ ds, d.canLay0 = true ∧ d.depth ≤ n) : SeqAt.shaped (.list ds) = true := by
  refine shaped_iff.mpr ⟨?_, ?_⟩
  · simp only [PyData.canLay0]
    exact canAll_mem.mpr fun d hd => (h d hd).1
  · have := depthAll_le fun d hd => (h d hd).2
    simp only [PyData.depth]
    omega
theorem shaped_of_tuple {ds : List PyData} (h : SeqAt.shaped (.tuple ds) = true) {d : PyData} (hd : d ∈ ds) : d.canLay0 = true ∧ d.depth ≤ 63 := by
  obtain ⟨h1, h2⟩ := shaped_iff.mp h
  simp only [PyData.canLay0] at h1
  simp only [PyData.depth] at h2
  have := depthAll_mem hd
  exact ⟨canAll_mem.mp h1 d hd, by omega⟩
/-- a value and what it is: data of any depth, or a dict (none) -/
inductive VD (K : PySem.W.Frag) (H : Hp) : V → Option PyData → Prop where
  | dat {v : V} {d : PyData} : Dp K H v d → SeqAt.shaped d = true → (∀ s, d = .str s → s.length ≤ 1000) → VD K H v (some d)
  | dic {a : Addr} {kvs : List (Key × V)} : H a = some (.dK kvs) → VD K H (.ref a) none
theorem VD.mono {K : PySem.W.Frag} {H H' : Hp} (e : Same H H') {v : V} {o : Option PyData} (h : VD K H v o) : VD K H' v o := by
  cases h with
  | dat a b c => exact .dat (dp_mono e a) b c
  | dic a => exact .dic (e _ _ a)
def tyD : PyData → String
  | .none => "NoneType" | .bool _ => "bool" | .int _ => "int" | .str _ => "str" | .list _ => "list" | .tuple _ => "tuple" | .dict _ => "dict"
def tyO : Option PyData → String
  | none => "dict"
  | some d => tyD d
theorem dp_ty {K : PySem.W.Frag} {H : Hp} {v : V} {d : PyData} (h : Dp K H v d) : TyX K H v (.type (tyD d)) := by
  cases h with
  | non => exact .base .non
  | bl b => exact .base (.bl b)
  | int i => exact .base (.int i)
  | str x => exact .base (.str x)
  | lst h _ =>
    rcases h with (h | ⟨o, h⟩) | ⟨o, its, n, h, c, _⟩
    · exact .base (.lst h)
    · exact .base (.frz h)
    · exact .kList h c
  | tup h _ =>
    rcases h with (h | ⟨o, h⟩) | ⟨o, its, n, h, c, _⟩
    · exact .base (.tup h)
    · exact .fTuple h
    · exact .kTuple h c
theorem VD.ty {K : PySem.W.Frag} {H : Hp} {v : V} {o : Option PyData} (h : VD K H v o) : TyX K H v (.type (tyO o)) := by
  cases h with
  | dat a _ _ => exact dp_ty a
  | dic a => exact .base (.dK a)
def isT (T : String) (o : Option PyData) : Bool := tyO o == T || (T == "int" && tyO o == "bool")
theorem tyO_mem (o : Option PyData) : tyO o = "NoneType" ∨ tyO o = "bool" ∨ tyO o = "int" ∨ tyO o = "str" ∨ tyO o = "list" ∨ tyO o = "tuple" ∨ tyO o = "dict" := by
  rcases o with _ | d
  · simp [tyO]
  · cases d <;> simp [tyO, tyD]
theorem kit_o {K : PySem.W.Frag} (o : Option PyData) {T : String} (hT : T = "int" ∨ T = "bool" ∨ T = "str" ∨ T = "tuple") : PySem.W.kitOne K (.type (tyO o)) (.type T) = some (isT T o) := by
  have h := tyO_mem o
  unfold isT
  generalize tyO o = nm at h ⊢
  rcases hT with rfl | rfl | rfl | rfl
  all_goals
    rcases h with rfl | rfl | rfl | rfl | rfl | rfl | rfl
    all_goals exact kit_ty (by decide +kernel)
def nonO : Option PyData → Bool
  | some .none => true
  | _ => false
theorem vd_non {K : PySem.W.Frag} {H : Hp} {v : V} {o : Option PyData} (h : VD K H v o) : decide (v = .non) = nonO o := by
  cases h with
  | dat a _ _ => cases a <;> rfl
  | dic a => rfl
theorem iteFe {c : Bool} {A B : Prop} (h : c = false) (q : B) : if c = true then A else B := by
  subst h
  exact iteF q
theorem iteTe {c : Bool} {A B : Prop} (h : c = true) (q : A) : if c = true then A else B := by
  subst h
  exact iteT q
theorem tyes {te : TE} {σ : L2.St} {H : Hp} {R : V → Hp → Prop} {S : Hp → Prop} (h : te σ H R) : tYes σ H (fun b H3 => if b = true then te σ H3 R else S H3) := by
  show (if true = true then te σ H R else S H)
  exact iteT h
/-! ### comprehensions that change nothing: acc i is what is made behind i turns -/
theorem lc_acc {J : It} {n : Nat} {G : Hp → Prop} {item : Nat → V → Prop} {g : TG} {tt : TT} {te : TE} {vs : List Nat} {σ : L2.St} {H1 : Hp} {D : Addr} {Qd : Hp → Prop} (w : Walk J n G (fun i H x H' => H' = H ∧ item i x)) (hD : H1 D = none) (hG : ∀ H, Same H1 H → G H) (acc : Nat → List V) (h0 : acc 0 = []) (hz : ∀ i, i < n → (acc i).length < sizeLine)
    (hs : ∀ (i : Nat) (x : V) (H : Hp), i < n → item i x → Same H1 H → ∀ (R : V → Hp → Prop) (S : Hp → Prop), (∀ y H4, acc (i + 1) = acc i ++ [y] → Same H H4 → R y H4) → (∀ H3, acc (i + 1) = acc i → Same H H3 → S H3) →
      g x (wipe σ vs) H fun σ2 H2 => wipe σ2 vs = wipe σ vs ∧ tt σ2 H2 fun b H3 => if b = true then te σ2 H3 R else S H3)
    (hd : ∀ H, Same H1 H → H D = some (.lst (acc n)) → Qd H) : ∃ W : Nat → Nat → Hp → Prop, (∃ m, W 0 m (upd H1 D (.lst []))) ∧ ∀ i m H, W i m H →
      (J.stop i H ∧ Qd H) ∨ (J.go i H ∧ ∃ Nx : Hp → Prop, (∀ H', Nx H' → ∃ m', m' < m ∧ W (i + 1) m' H') ∧ ∀ x H', J.yld i H x H' → g x (wipe σ vs) H' fun σ2 H2 => wipe σ2 vs = wipe σ vs ∧ tt σ2 H2 fun b H3 =>
        if b = true then te σ2 H3 fun y H4 => ∃ acc, H4 D = some (.lst acc) ∧ acc.length < sizeLine ∧ Nx (upd H4 D (.lst (acc ++ [y]))) else Nx H3) := by
  refine lc_it w (fun i H => Same H1 H ∧ H D = some (.lst (acc i))) ⟨fun b o e => ?_, ?_⟩ (fun i H _ p => hG H p.1) ?_ (fun H p => hd H p.1 p.2)
  · rw [upd_ne (ne_of_none e hD)]
    exact e
  · rw [upd_same, h0]
  · rintro i x H H' hi ⟨s1, hl⟩ ⟨rfl, hx⟩
    refine hs i x _ hi hx s1 _ _ (fun y H4 e s2 => ⟨acc i, s2 _ _ hl, hz i hi, ⟨fun b o eb => ?_, by rw [upd_same, e]⟩⟩) (fun H3 e s2 => ⟨s1.trans s2, by rw [e]; exact s2 _ _ hl⟩)
    rw [upd_ne (ne_of_none eb hD)]
    exact s2 _ _ (s1 _ _ eb)
/-! ### texts and their bounds -/
theorem same_new {H : Hp} {q : Addr} {o : HO} (h : H q = none) : Same H (upd H q o) := fun b u e => by
  rw [upd_ne (ne_of_none e h)]
  exact e
/-- at most n signs, all of them signs -/
def sOk (n : Nat) (s : Str) : Prop := s.length ≤ n ∧ PyData.strOk s = true
theorem strOk_iff {s : Str} : PyData.strOk s = true ↔ ∀ c ∈ s.cps.toList, c < 0x110000 := by
  unfold PyData.strOk
  rw [Array.all_eq_true']
  constructor
  · intro h c hc
    exact of_decide_eq_true (h c (by simpa using hc))
  · intro h c hc
    exact decide_eq_true (h c (by simpa using hc))
theorem sOk.mono {n m : Nat} {s : Str} (h : sOk n s) (e : n ≤ m) : sOk m s := ⟨Nat.le_trans h.1 e, h.2⟩
theorem sOk.app {n m : Nat} {a b : Str} (h : sOk n a) (k : sOk m b) : sOk (n + m) (a ++ b) := by
  refine ⟨?_, strOk_iff.mpr fun c hc => ?_⟩
  · rw [Str.length_append]
    exact Nat.add_le_add h.1 k.1
  · rw [Str.cps_append, Array.toList_append] at hc
    rcases List.mem_append.mp hc with q | q
    · exact strOk_iff.mp h.2 c q
    · exact strOk_iff.mp k.2 c q
theorem sOk.cut {n : Nat} {a : Str} (h : sOk n a) (lo hi : Option Int) : sOk n (cutS a lo hi) := by
  refine ⟨Nat.le_trans (cutS_length _ _ _) h.1, strOk_iff.mpr fun c hc => ?_⟩
  unfold cutS at hc
  have hc' : c ∈ a.cps.toList := List.mem_of_mem_drop (List.mem_of_mem_take (by simpa using hc))
  exact strOk_iff.mp h.2 c hc'
theorem joinL_nil : ∀ ps : List (List Nat), TL.joinL [] ps = ps.flatten
  | [] => rfl
  | [p] => by simp [TL.joinL]
  | p :: q :: r => by
    have ih := joinL_nil (q :: r)
    simp only [TL.joinL, ih]
    simp
theorem flat_len : ∀ (ys : List Str) (n : Nat), (∀ y ∈ ys, y.length ≤ n) → ((ys.map TL.tl).flatten).length ≤ ys.length * n
  | [], _, _ => by simp
  | y :: r, n, h => by
    have ih := flat_len r n fun z hz => h z (List.mem_cons_of_mem _ hz)
    have h1 : y.length ≤ n := h y List.mem_cons_self
    have h2 : (TL.tl y).length = y.length := by simp [TL.tl, Str.length]
    simp only [List.map_cons, List.flatten_cons, List.length_append, List.length_cons, Nat.add_mul, Nat.one_mul]
    omega
theorem join_ok {ys : List Str} {n : Nat} (h : ∀ y ∈ ys, sOk n y) : sOk (ys.length * n) (Txt.join Str.empty ys) := by
  have e : TL.tl (Txt.join Str.empty ys) = (ys.map TL.tl).flatten := by
    rw [TL.join_eq, TL.tl_join]
    exact joinL_nil _
  refine ⟨?_, strOk_iff.mpr fun c hc => ?_⟩
  · have h1 : (Txt.join Str.empty ys).length = (TL.tl (Txt.join Str.empty ys)).length := by simp [TL.tl, Str.length]
    rw [h1, e]
    exact flat_len ys n fun y hy => (h y hy).1
  · have hc' : c ∈ TL.tl (Txt.join Str.empty ys) := hc
    rw [e] at hc'
    obtain ⟨l, hl, hcl⟩ := List.mem_flatten.mp hc'
    obtain ⟨y, hy, rfl⟩ := List.mem_map.mp hl
    exact strOk_iff.mp (h y hy).2 c hcl
theorem sum_le : ∀ (ys : List Str) (n : Nat), (∀ y ∈ ys, y.length ≤ n) → (ys.map (·.length)).sum ≤ ys.length * n
  | [], _, _ => by simp
  | y :: r, n, h => by
    have ih := sum_le r n fun z hz => h z (List.mem_cons_of_mem _ hz)
    have h1 : y.length ≤ n := h y List.mem_cons_self
    simp only [List.map_cons, List.sum_cons, List.length_cons, Nat.add_mul, Nat.one_mul]
    omega
/-- an item at an open place within -/
theorem atI_in {α : Type} {xs : List α} {z : Int} (h0 : 0 ≤ z) (h1 : z < xs.length) : ∃ v, atI xs z = some v ∧ v ∈ xs := by
  obtain ⟨j, rfl⟩ := Int.eq_ofNat_of_zero_le h0
  have hj : j < xs.length := by omega
  exact ⟨xs[j], atI_nat (List.getElem?_eq_getElem hj), List.getElem_mem hj⟩
theorem op_mul_str {X : Cx} : OpR X (binaryOp .Mult) (fun x y H Q => ∃ z n, x = .str z ∧ y = .int n ∧ MulOk z n ∧ Q (.str (Txt.mul z n)) H) := by
  intro pins s σ H x y v u Q I rx ry h
  obtain ⟨z, n, rfl, rfl, hz, q⟩ := h
  obtain ⟨t, rfl⟩ := rx
  obtain ⟨t', rfl⟩ := ry
  exact SB.mul hz fun t' tk => ⟨.str (Txt.mul z n), H, I.tok _, ⟨_, rfl⟩, q⟩
theorem BoxIn.low {H0 H1 H : Hp} {p : Addr} {n : Nat} (b : BoxIn H1 H p n) (s : Same H0 H1) : BoxIn H0 H p n := ⟨s.trans b.same, s.free b.free, b.box⟩
theorem BoxIn.mut {H0 H : Hp} {p D : Addr} {n : Nat} {o : HO} (b : BoxIn H0 H p n) (h1 : D ≠ p) (h2 : H0 D = none) : BoxIn H0 (upd H D o) p n := by
  obtain ⟨d, s', c, h, hh⟩ := b.box
  refine ⟨fun x u e => ?_, b.free, d, s', c, by rw [upd_ne h1.symm]; exact h, hh⟩
  rw [upd_ne (ne_of_none e h2)]
  exact b.same _ _ e
/-- what a def draws: Good of the value, with what is known then -/
def sp_draw (c : Nat) (Good : Hp → V → Prop) : Sp := fun vs H Q _ => ∃ (H0 : Hp) (p : Addr) (n : Nat), vs = [.ref p] ∧ BoxIn H0 H p n ∧ n + c < 1000000 ∧ ∀ (H1 H' : Hp) (v : V), Same H0 H1 → BoxIn H1 H' p (n + c) → Good H1 v → Q v H'
/-! ### the mirror -/
def intO (o : Option PyData) : Bool := isT "int" o && !isT "bool" o
def limO (o : Option PyData) : Bool := nonO o || intO o
def okSign (c : Nat) : Bool := !decide (([c] : List Nat) < [97]) && !decide (([122] : List Nat) < [c])
def nameS (s : Str) : Bool := !(s == ("table" : Str)) && (decide ((1 : Int) ≤ s.length) && (decide ((s.length : Int) ≤ 8) && s.cps.toList.all okSign))
def nameO : Option PyData → Bool
  | some (.str s) => nameS s
  | _ => false
def ltO : PyData → PyData → Bool
  | .int i, .int j => decide (i < j)
  | _, _ => true
def spanO : Option PyData → Bool
  | some (.tuple [l, h]) => limO (some l) && (limO (some h) && ltO l h)
  | _ => false
theorem spanO_no {ds : List PyData} (h : ds.length ≠ 2) : spanO (some (.tuple ds)) = false := by
  match ds, h with
  | [], _ => rfl
  | [_], _ => rfl
  | [_, _], hl => exact absurd rfl hl
  | _ :: _ :: _ :: _, _ => rfl
theorem dp_two {K : PySem.W.Frag} {H : Hp} {xs : List V} {ds : List PyData} (h : DpAll K H xs ds) (e : xs.length = 2) : ∃ x y d e, xs = [x, y] ∧ ds = [d, e] ∧ Dp K H x d ∧ Dp K H y e := by
  match xs, ds, h, e with
  | [x, y], [d, e], .cons h1 (.cons h2 .nil), _ => exact ⟨x, y, d, e, rfl, rfl, h1, h2⟩
theorem spanO_ty {o : Option PyData} (e : isT "tuple" o = false) : spanO o = false := by
  rcases o with _ | d
  · rfl
  · cases d with
    | tuple s => cases e
    | _ => rfl
theorem nameO_no {o : Option PyData} (e : isT "str" o = false) : nameO o = false := by
  rcases o with _ | d
  · rfl
  · cases d with
    | str s => cases e
    | _ => rfl
theorem VD.str_of {K : PySem.W.Frag} {H : Hp} {v : V} {o : Option PyData} (hv : VD K H v o) (e : isT "str" o = true) : ∃ s, v = .str s ∧ o = some (.str s) ∧ s.length ≤ 1000 ∧ PyData.strOk s = true := by
  cases hv with
  | dat a b c =>
    cases a with
    | str s =>
      have := (shaped_iff.mp b).1
      simp only [PyData.canLay0] at this
      exact ⟨s, rfl, rfl, c s rfl, this⟩
    | _ => cases e
  | dic a => cases e
theorem VD.tup_of {K : PySem.W.Frag} {H : Hp} {v : V} {o : Option PyData} (hv : VD K H v o) (e : isT "tuple" o = true) : ∃ a xs ds, v = .ref a ∧ o = some (.tuple ds) ∧ SqT K H a xs ∧ DpAll K H xs ds ∧ SeqAt.shaped (.tuple ds) = true := by
  cases hv with
  | dat a b c =>
    cases a with
    | tup h1 h2 => exact ⟨_, _, _, rfl, rfl, h1, h2, b⟩
    | _ => cases e
  | dic a => cases e
theorem strOk_mem {s : Str} (h : PyData.strOk s = true) {c : Nat} (hc : c ∈ s.cps.toList) : c < 0x110000 := by
  unfold PyData.strOk at h
  rw [Array.all_eq_true'] at h
  exact of_decide_eq_true (h c (by simpa using hc))
theorem strOk_sign {c : Nat} (h : c < 0x110000) : PyData.strOk ⟨#[c]⟩ = true := by
  unfold PyData.strOk
  simp
  omega
/-- the values that are no limits -/
def filt : List V → List PyData → List V
  | x :: xs, d :: ds => if limO (some d) = true then filt xs ds else x :: filt xs ds
  | _, _ => []
theorem filt_len : ∀ (xs : List V) (ds : List PyData), (filt xs ds).length ≤ xs.length
  | [], _ => by simp [filt]
  | _ :: _, [] => by simp [filt]
  | x :: xs, d :: ds => by
    have ih := filt_len xs ds
    simp only [filt]
    split
    · simp only [List.length_cons]
      omega
    · simp only [List.length_cons]
      omega
theorem filt_step : ∀ {xs : List V} {ds : List PyData} {i : Nat} {x : V} {d : PyData}, xs[i]? = some x → ds[i]? = some d → filt (xs.take (i + 1)) (ds.take (i + 1)) = if limO (some d) = true then filt (xs.take i) (ds.take i) else filt (xs.take i) (ds.take i) ++ [x]
  | [], _, _, _, _, h, _ => by simp at h
  | _ :: _, [], _, _, _, _, h => by simp at h
  | y :: ys, e :: es, 0, x, d, h1, h2 => by
    cases h1
    cases h2
    simp [filt]
  | y :: ys, e :: es, i + 1, x, d, h1, h2 => by
    have ih := filt_step (xs := ys) (ds := es) (i := i) (x := x) (d := d) (by simpa using h1) (by simpa using h2)
    simp only [List.take_succ_cons, filt, ih]
    split <;> split <;> simp
theorem filt_dp {K : PySem.W.Frag} {H : Hp} : ∀ {xs : List V} {ds : List PyData}, DpAll K H xs ds → DpAll K H (filt xs ds) (ds.filter fun d => !limO (some d))
  | _, _, .nil => by simp [filt]; exact .nil
  | _, _, .cons (v := v) (d := d) a b => by
    have ih := filt_dp b
    simp only [filt]
    cases h : limO (some d) with
    | true =>
      simp [h]
      exact ih
    | false =>
      simp [h]
      exact .cons a ih
theorem okSign_is (c : Nat) : okSign c = decide (c ∈ ("abcdefghijklmnopqrstuvwxyz" : Str).cps.toList) := by
  have e : ("abcdefghijklmnopqrstuvwxyz" : Str).cps.toList = [97, 98, 99, 100, 101, 102, 103, 104, 105, 106, 107, 108, 109, 110, 111, 112, 113, 114, 115, 116, 117, 118, 119, 120, 121, 122] := by decide +kernel
  rw [e]
  unfold okSign
  rw [Bool.eq_iff_iff, Bool.and_eq_true, decide_eq_true_iff, Bool.not_eq_true', Bool.not_eq_true', decide_eq_false_iff_not, decide_eq_false_iff_not]
  simp only [List.cons_lt_cons_iff, List.not_lt_nil, and_false, or_false, List.mem_cons, List.not_mem_nil]
  omega
def sp_v1 (K : PySem.W.Frag) (f : Option PyData → Bool) : Sp := fun vs H Q _ => ∃ (v : V) (o : Option PyData), vs = [v] ∧ VD K H v o ∧ ∀ H', Same H H' → Q (.bl (f o)) H'
/-- the same without a word on the heap: nothing is made -/
def sp_v0 (K : PySem.W.Frag) (f : Option PyData → Bool) : Sp := fun vs H Q _ => ∃ (v : V) (d : PyData), vs = [v] ∧ Dp K H v d ∧ Q (.bl (f (some d))) H
def sp_vO (K : PySem.W.Frag) (f : Option PyData → Bool) : Sp := fun vs H Q _ => ∃ (v : V) (o : Option PyData), vs = [v] ∧ TyX K H v (.type (tyO o)) ∧ decide (v = .non) = nonO o ∧ Q (.bl (f o)) H
theorem dp_vO {K : PySem.W.Frag} {H : Hp} {v : V} {d : PyData} (h : Dp K H v d) : TyX K H v (.type (tyO (some d))) ∧ decide (v = .non) = nonO (some d) := by
  refine ⟨dp_ty h, ?_⟩
  cases h <;> rfl
theorem vd_vO {K : PySem.W.Frag} {H : Hp} {v : V} {o : Option PyData} (h : VD K H v o) : TyX K H v (.type (tyO o)) ∧ decide (v = .non) = nonO o := ⟨h.ty, vd_non h⟩
/-! ### spans as two limits -/
abbrev Span := Option Int × Option Int
def limV : Option Int → V
  | none => .non
  | some i => .int i
def limD : Option Int → PyData
  | none => .none
  | some i => .int i
def okS : Span → Bool
  | (some l, some h) => decide (l < h)
  | _ => true
def spD (s : Span) : PyData := .tuple [limD s.1, limD s.2]
def spV (s : Span) : List V := [limV s.1, limV s.2]
def loB (l : Option Int) (k : Int) : Bool := match l with | none => true | some i => decide (i ≤ k)
def hiB (h : Option Int) (k : Int) : Bool := match h with | none => true | some i => decide (k < i)
def inS (s : Span) (k : Int) : Bool := loB s.1 k && hiB s.2 k
def maxO : Option Int → Option Int → Option Int
  | none, b => b
  | a, none => a
  | some a, some b => some (max a b)
def minO : Option Int → Option Int → Option Int
  | none, b => b
  | a, none => a
  | some a, some b => some (min a b)
def comS (s t : Span) : Span := (maxO s.1 t.1, minO s.2 t.2)
theorem spanO_ok (s : Span) : spanO (some (spD s)) = okS s := by
  obtain ⟨l, h⟩ := s
  cases l <;> cases h <;> rfl
theorem limO_of {d : PyData} (h : limO (some d) = true) : ∃ l, d = limD l := by
  cases d with
  | none => exact ⟨none, rfl⟩
  | int i => exact ⟨some i, rfl⟩
  | _ => cases h
theorem spanO_of {o : Option PyData} (h : spanO o = true) : ∃ s, o = some (spD s) ∧ okS s = true := by
  rcases o with _ | d
  · cases h
  · cases d with
    | tuple ds =>
      by_cases e : ds.length = 2
      · match ds, e with
        | [a, b], _ =>
          have h' : (limO (some a) && (limO (some b) && ltO a b)) = true := h
          rw [Bool.and_eq_true, Bool.and_eq_true] at h'
          obtain ⟨l, rfl⟩ := limO_of h'.1
          obtain ⟨u, rfl⟩ := limO_of h'.2.1
          exact ⟨(l, u), rfl, (spanO_ok (l, u)).symm.trans h⟩
      · rw [spanO_no e] at h
        cases h
    | _ => cases h
theorem dp_lim {K : PySem.W.Frag} {H : Hp} (l : Option Int) : Dp K H (limV l) (limD l) := by
  cases l with
  | none => exact .non
  | some i => exact .int i
theorem limD_inj {l u : Option Int} (h : limD l = limD u) : l = u := by
  cases l <;> cases u <;> cases h <;> rfl
theorem lim_of_dp {K : PySem.W.Frag} {H : Hp} {v : V} {l : Option Int} (h : Dp K H v (limD l)) : v = limV l := by
  cases l with
  | none => cases h; rfl
  | some i => cases h; rfl
theorem dpAll_spV {K : PySem.W.Frag} {H : Hp} (s : Span) : DpAll K H (spV s) [limD s.1, limD s.2] := .cons (dp_lim _) (.cons (dp_lim _) .nil)
theorem shaped_sp (s : Span) : SeqAt.shaped (spD s) = true := by
  obtain ⟨l, h⟩ := s
  cases l <;> cases h <;> rfl
theorem vd_sp {K : PySem.W.Frag} {H : Hp} {a : Addr} {s : Span} (h : SqT K H a (spV s)) : VD K H (.ref a) (some (spD s)) := .dat (.tup h (dpAll_spV s)) (shaped_sp s) fun x e => by cases e
theorem VD.sp {K : PySem.W.Frag} {H : Hp} {v : V} {s : Span} (h : VD K H v (some (spD s))) : ∃ a, v = .ref a ∧ SqT K H a (spV s) := by
  cases h with
  | dat d _ _ =>
    cases d with
    | tup h1 h2 =>
      cases h2 with
      | cons a b =>
        cases b with
        | cons c e =>
          cases e
          rw [lim_of_dp a, lim_of_dp c] at h1
          exact ⟨_, rfl, h1⟩
theorem intO_of {K : PySem.W.Frag} {H : Hp} {v : V} {o : Option PyData} (h : VD K H v o) (e : intO o = true) : ∃ i, v = .int i ∧ o = some (.int i) := by
  cases h with
  | dat a _ _ =>
    cases a with
    | int i => exact ⟨i, rfl, rfl⟩
    | _ => cases e
  | dic a => cases e
/-! ### what is raised -/
/-- an exception of the class at C leaves, with v as its field f -/
def Rz (H : Hp) (E : XK) (C : Addr) (f : Str) (v : V) : Prop := ∀ (d : Addr) (H' : Hp), H d = none → H' d = some (.xd [(f, v)]) → Same H H' → E (.ref C) (some d) H'
theorem Rz.back {H H1 : Hp} {E : XK} {C : Addr} {f : Str} {v : V} (s : Same H H1) (h : Rz H E C f v) : Rz H1 E C f v := fun d H' n x k => h d H' (s.free n) x (s.trans k)
/-- X.__init__: the one field -/
def sp_xinit (K : PySem.W.Frag) (C : Addr) (f : Str) : Sp := fun vs H Q _ => ∃ (a : Addr) (v : V), vs = [.ref a, v] ∧ OexC K C ∧ PySem.W.findIn K (.ref C) f = some none ∧ H a = some (exo a C none) ∧ ∀ dx, H dx = none → dx ≠ a → Q .non (upd (upd H dx (exd dx [(f, v)])) a (exo a C (some dx)))
/-- the reading of «raise X(v)» -/
theorem raise_x {K : PySem.W.Frag} {H : Hp} {E : XK} {C : Addr} {f : Str} {v : V} (x : OexC K C) (n : PySem.W.findIn K (.ref C) f = some none) (h : Rz H E C f v) : ([v] : List V).length ≤ 1000 ∧ ∀ a, H a = none → sp_xinit K C f (.ref a :: ([v] ++ [])) (upd H a (exo a C none))
    (fun v' H2 => v' = .non ∧ ∃ (d : Addr) (fs : List (Str × V)), H2 a = some (exo a C (some d)) ∧ H2 d = some (exd d fs) ∧ H d = none ∧ E (.ref C) (some d) (upd (del H2 a) d (.xd fs))) (fun _ _ _ => False) := by
  refine ⟨by show 1 ≤ 1000; decide, fun a ha => ⟨a, v, rfl, x, n, upd_same, fun dx hdx ne => ⟨rfl, dx, [(f, v)], upd_same, by rw [upd_ne ne, upd_same], ?_, ?_⟩⟩⟩
  · rw [upd_ne ne] at hdx
    exact hdx
  · rw [upd_ne ne] at hdx
    refine h dx _ hdx upd_same fun b o e => ?_
    have nb : b ≠ a := ne_of_none e ha
    have nd : b ≠ dx := ne_of_none e hdx
    rw [upd_ne nd, del_ne nb, upd_ne nb, upd_ne nd, upd_ne nb]
    exact e
/-! ### promises -/
def sp_req (K : PySem.W.Frag) (f : Option PyData → Bool) (C : Addr) (fld : Str) : Sp := fun vs H Q E => ∃ (v : V) (o : Option PyData), vs = [v] ∧ VD K H v o ∧ (f o = true → ∀ H', Same H H' → Q .non H') ∧ (f o = false → Rz H E C fld v)
def sp_in_span (K : PySem.W.Frag) (CS CK : Addr) : Sp := fun vs H Q E => ∃ (x y : V) (o o2 : Option PyData), vs = [x, y] ∧ VD K H x o ∧ VD K H y o2 ∧ (spanO o = false → Rz H E CS "value" x) ∧ (spanO o = true → intO o2 = false → Rz H E CK "value" y) ∧
  ∀ (s : Span) (k : Int), o = some (spD s) → okS s = true → o2 = some (.int k) → ∀ H', Same H H' → Q (.bl (inS s k)) H'
def sp_common (K : PySem.W.Frag) (CS : Addr) : Sp := fun vs H Q E => ∃ (x y : V) (o o2 : Option PyData), vs = [x, y] ∧ VD K H x o ∧ VD K H y o2 ∧ (spanO o = false → Rz H E CS "value" x) ∧ (spanO o = true → spanO o2 = false → Rz H E CS "value" y) ∧
  ∀ (s t : Span), o = some (spD s) → okS s = true → o2 = some (spD t) → okS t = true → (okS (comS s t) = true → ∀ p H', Same H H' → H p = none → H' p = some (.tup (spV (comS s t))) → Q (.ref p) H') ∧ (okS (comS s t) = false → ∀ H', Same H H' → Q .non H')
def sp_meet (K : PySem.W.Frag) (CS : Addr) : Sp := fun vs H Q E => ∃ (x y : V) (o o2 : Option PyData), vs = [x, y] ∧ VD K H x o ∧ VD K H y o2 ∧ (spanO o = false → Rz H E CS "value" x) ∧ (spanO o = true → spanO o2 = false → Rz H E CS "value" y) ∧
  ∀ (s t : Span), o = some (spD s) → okS s = true → o2 = some (spD t) → okS t = true → ∀ H', Same H H' → Q (.bl (okS (comS s t))) H'
def lowsL (a b : Option Int) : List Int := (a.toList ++ b.toList)
theorem limV_non (l : Option Int) : decide (limV l = .non) = l.isNone := by
  cases l <;> rfl
theorem max_none {a b : Option Int} (e : lowsL a b = []) : V.non = limV (maxO a b) := by
  cases a <;> cases b <;> first | rfl | cases e
theorem min_none {a b : Option Int} (e : lowsL a b = []) : V.non = limV (minO a b) := by
  cases a <;> cases b <;> first | rfl | cases e
theorem max_some {a b : Option Int} {m : Int} (h1 : m ∈ lowsL a b) (h2 : ∀ n ∈ lowsL a b, n ≤ m) : V.int m = limV (maxO a b) := by
  cases a with
  | none =>
    cases b with
    | none => cases h1
    | some y =>
      obtain rfl : m = y := by simpa [lowsL] using h1
      rfl
  | some x =>
    cases b with
    | none =>
      obtain rfl : m = x := by simpa [lowsL] using h1
      rfl
    | some y =>
      have hx := h2 x (by simp [lowsL])
      have hy := h2 y (by simp [lowsL])
      have hm : m = x ∨ m = y := by simpa [lowsL] using h1
      show V.int m = V.int (max x y)
      congr 1
      omega
theorem min_some {a b : Option Int} {m : Int} (h1 : m ∈ lowsL a b) (h2 : ∀ n ∈ lowsL a b, m ≤ n) : V.int m = limV (minO a b) := by
  cases a with
  | none =>
    cases b with
    | none => cases h1
    | some y =>
      obtain rfl : m = y := by simpa [lowsL] using h1
      rfl
  | some x =>
    cases b with
    | none =>
      obtain rfl : m = x := by simpa [lowsL] using h1
      rfl
    | some y =>
      have hx := h2 x (by simp [lowsL])
      have hy := h2 y (by simp [lowsL])
      have hm : m = x ∨ m = y := by simpa [lowsL] using h1
      show V.int m = V.int (min x y)
      congr 1
      omega
/-! ### exceptions as values: made, asked for their class, their field read -/
section
variable {X : Cx}
/-- the reading of C(v, ..) as a value: __init__ runs, the object is handed on -/
def tOV (C : Addr) (m : Sp) (ta : TA) : TE := fun σ H Q => ta σ H fun vs H1 => vs.length ≤ 1000 ∧ ∀ a, H1 a = none → m (.ref a :: (vs ++ [])) (upd H1 a (exo a C none)) (fun v H2 => v = .non ∧ Q (.ref a) H2) (fun _ _ _ => False)
theorem pe_oexV {CX : CXT} {y : Str} {C fi : Addr} {n : Nat} {g : FuncData} {qs : List Str} {m : Sp} {e1 : Expr} {er : List Expr} {ta : TA} {pN pC : Pos} (O : OexC X.K C)
    (h1 : PySem.W.findIn X.K (.ref C) "__init__" = some (some (.ref fi))) (h2 : PySem.W.typeIn X.K (.ref fi) = some (.type "function"))
    (B : FnOk X.prog X.w X.K X.mg X.base CX n fi g qs m) (hr : Room (n + 1) X.A) (bi : Binds X.K g qs []) (px : Passes CX X (fun _ _ _ => False)) (hg : Gl X y) (hm : X.mg y = some (.ref C)) (ha : PA X (e1 :: er) ta)
    (nd : (y == ("__debug__" : Str)) = false := by decide) (st : starEach (e1 :: er) X.env = (false, eval e1 X.env) :: starEach er X.env := by rfl) (np : (backTo pC (starEach er X.env)).any (·.1) = false := by rfl) :
    PE X (.Call (.Name y pN) (e1 :: er) [] pC) (tOV C m ta) := by
  refine ⟨fun pins s0 σ H Q I0 hq => ?_⟩
  obtain ⟨_, _, _, _, bm, _, _, _, _, _, _, _, _, _, _, look, refs⟩ := O.cls
  refine wpAny_Call_Name_kw (ld_glob I0 hg hm ?_ nd)
  refine PySem.W.callWith_K (h₀ := X.base) I0.ok.mod.kin O.kC (thn (ha.run pC pins s0 σ H _ I0 hq) fun us s1 got => ?_) st np
  obtain ⟨vs, H1, I1, rel, few, ini⟩ := got
  refine ⟨I1.kIn, ?_⟩
  show wpAny _ _ (call (.ref C) us) _ _ _
  obtain ⟨hp, gens, drawn, toks, os⟩ := s1
  have over : hp.objs.size ≤ hp.objs.size + 1 := by omega
  have made := ini (hp.objs.size + 1) (I1.hok.fresh over)
  have at1 : ((hp.push (PySem.W.kdv_tup us)).push (PySem.HandSPX.excO C hp.objs.size)).get? (hp.objs.size + 1) = some (PySem.HandSPX.excO C hp.objs.size) := by
    heap_get
  have I2 := I1.laid (t' := toks) (a := hp.objs.size + 1) (o := exo (hp.objs.size + 1) C none) (h' := (hp.push (PySem.W.kdv_tup us)).push (PySem.HandSPX.excO C hp.objs.size))
    (fun b o z => Heap.get?_push_of_some _ (Heap.get?_push_of_some _ z)) over (exo_ok at1)
  have relI : Vals (V.ref (hp.objs.size + 1) :: (vs ++ [])) (Value.ref (hp.objs.size + 1) :: (us ++ [])) := .cons rfl (rel.append .nil)
  have lens : (Value.ref (hp.objs.size + 1) :: us ++ []).length = qs.length := by
    have z := relI.length
    rw [B.len _ _ _ _ made] at z
    exact z.symm
  have fits : us.length ≤ sizeLine := by
    rw [← Paired.length rel, sizeLine_eq]
    omega
  refine wpAny_call (PySem.HandSPX.call_own F.excBase_ValueError (fun Y => PySem.HandSPX.refsVE_contains Y bm refs) (I1.kIn _ _ look) (PySem.W.looks_findIn I1.kIn h1) (fun self => PySem.W.bind_fn I1.kIn self h2) fits
    (codeAny_mono (B.run _ X.stack _ _ ⟨Value.ref (hp.objs.size + 1) :: us, []⟩ (Value.ref (hp.objs.size + 1) :: (us ++ [])) _ _ (fun _ _ _ => False) (hr.make C us []) (I2.env0.make C us []) (by exact bi _ (Value.ref (hp.objs.size + 1) :: us) I2.kIn lens) relI made) fun r s' fin => ?_))
  cases r with
  | error er => exact px pins σ _ _ er s' I2 fin
  | ok fl =>
    cases fl with
    | ret u =>
      obtain ⟨w, H2, J, rw', ew, q⟩ := I2.after fin
      subst ew
      exact ⟨rw', .ref (hp.objs.size + 1), H2, J, rfl, q⟩
    | next => exact False.elim fin
    | brk => exact False.elim fin
    | cont => exact False.elim fin
/-- x.f of an exception object at hand -/
def tXo (K : PySem.W.Frag) (f : Str) (te : TE) : TE := fun σ H Q => te σ H fun x H1 => ∃ (a C d : Addr) (fs : List (Str × V)) (v : V), x = .ref a ∧ XfC K C ∧ PySem.W.findIn K (.ref C) f = some none ∧ H1 a = some (exo a C (some d)) ∧ H1 d = some (exd d fs) ∧ fs.lookup f = some v ∧ Q v H1
theorem pe_xo {e : Expr} {te : TE} {pos : Pos} {f : Str} (he : PE X e te) (hb : attributeBase e f X.env (eval e X.env) = eval e X.env := by rfl) : PE X (.Attribute e f pos) (tXo X.K f te) := by
  refine ⟨fun pins s σ H Q I h => attr_of hb (thn (he.run pins s σ H _ I h) fun u s1 hh => ?_)⟩
  obtain ⟨x, H1, I1, rx, a, C, d, fs, v, rfl, T, hno, ea, ed, l, q⟩ := hh
  cases (show u = Value.ref a from rx)
  obtain ⟨t1, oa⟩ := exo_at I1.hok ea
  obtain ⟨mA, ns, hr⟩ := exd_at I1.hok ed
  obtain ⟨od, ho, hl⟩ := lookIn_ns ns
  obtain ⟨w, hw, rw'⟩ := RelO.some_of (v := v) (o := mA f) (by rw [← l]; exact hr f)
  have J : PySem.W.InstAt s1.heap a _ C (some od) := ⟨oa, rfl, rfl, ho⟩
  exact HandSPX.exc_get I1.kIn J T.ga T.gg T.exC (PySem.W.findObj_own T.hdC hno rfl (by rw [hl, hw])) (handed_of rw') ⟨v, H1, I1.tok _, rw', q⟩
/-- what isinstance asks of the class of an exception object -/
structure KitE (K : PySem.W.Frag) (C : Addr) : Prop where
  cl : (PySem.W.clsIn K C).isSome = true
  ga : PySem.W.findIn K (.ref C) "__getattribute__" = some (some (.builtin "BaseException.__getattribute__"))
  gt : PySem.W.findIn K (.ref C) "__getattr__" = some none
  sub : PySem.W.subIn K (.ref C) (.type "BaseException") = some true
  co : PySem.W.findIn K (.ref C) "__class__" = some (some (.builtin "object.__class__"))
  sp : PySem.W.specialIn K (.builtin "object.__class__") "__get__" = some (some (.builtin "getset_descriptor.__get__"))
  tk : PySem.W.takesIn K (.builtin "object.__class__") = some true
  ob : PySem.W.mroIn K C (.type "object") = some true
/-- an exception object of the class at C -/
def EAt (H : Hp) (a C : Addr) : Prop := H a = some (ExO (.ref C) a) ∨ ∃ d fs, H a = some (exo a C (some d)) ∧ H d = some (exd d fs)
def rIsE (K : PySem.W.Frag) : List V → Hp → VK → Prop := fun xs H Q => ∃ (a C : Addr) (c : V) (u : Value) (b : Bool), xs = [.ref a, c] ∧ ClsV c u ∧ EAt H a C ∧ KitE K C ∧ PySem.W.kitOne K (.ref C) u = some b ∧ Q (.bl b) H
theorem call_isE : CallR X (.builtin "isinstance") (rIsE X.K) := by
  intro pins s σ H xs us Q I r h
  obtain ⟨a, C, c, u, b, rfl, k, ea, E, kit, q⟩ := h
  obtain ⟨u1, u2, rfl, r1, r2⟩ := vals2 r
  cases (show u1 = Value.ref a from r1)
  have e2 := k.eq r2
  subst e2
  have no : (Value.ref a) ≠ .builtin "__main__.__loader__#opaque" := fun z => nomatch z
  rcases ea with ea | ⟨d, fs, ea, ed⟩
  · obtain ⟨⟨oe, vs, ho, hz, hd, _⟩, _, _⟩ := I.hok a _ ea
    have J : PySem.W.InstAt s.heap a oe C none := ⟨ho, hz.1, by unfold PySem.W.notCls; rw [hd] <;> rfl, by rw [hz.2]; trivial⟩
    exact PySem.W.kia_one (PySem.W.kitx_exc E.cl E.ga E.gt E.sub E.co E.sp E.tk E.ob) I.kIn J kit no fun tk => ⟨.bl b, H, I.tok tk, rfl, q⟩
  · obtain ⟨t1, oa⟩ := exo_at I.hok ea
    obtain ⟨mA, ns, hr⟩ := exd_at I.hok ed
    obtain ⟨od, ho, hl⟩ := lookIn_ns ns
    have J : PySem.W.InstAt s.heap a _ C (some od) := ⟨oa, rfl, rfl, ho⟩
    exact PySem.W.kia_one (PySem.W.kitx_exc E.cl E.ga E.gt E.sub E.co E.sp E.tk E.ob) I.kIn J kit no fun tk => ⟨.bl b, H, I.tok tk, rfl, q⟩
/-- C(), a class without own __init__ -/
theorem pe_excV0 {C : Addr} {bmB : List Value} {B newId initId : String} {y : Str} {pN pC : Pos} (F : ExcBaseFacts B newId initId bmB) (q : PySem.W.excIn X.K C bmB newId = true) (hm : X.mg y = some (.ref C)) (kC : PySem.W.keepIn X.K (.ref C) = true) (hg : Gl X y)
    (nd : (y == ("__debug__" : Str)) = false := by decide) : PE X (.Call (.Name y pN) [] [] pC) (fun _ H Q => ∀ a, H a = none → Q (.ref a) (upd H a (ExO (.ref C) a))) := by
  refine ⟨fun pins s σ H Q I h => ?_⟩
  refine wpAny_Call_Name_kw (ld_glob I hg hm ?_ nd)
  refine PySem.W.callWith_K0 I.kIn kC ?_
  show wpAny _ _ (call (.ref C) []) _ _ _
  obtain ⟨_, _, _, _, _, _, _, _, _, _, _, _, _, _, _, _, lookN, look, ns, ni, T⟩ := exc_obj I.kIn q
  refine wpAny_call_exc_subT F T look ns ni (fun h' a hm => ?_) (by show 0 ≤ sizeLine; omega)
  have hn : H a = none := I.hok.gone hm.new
  obtain ⟨t, ht, _, _⟩ := hm.there
  exact ⟨.ref a, upd H a (ExO (.ref C) a), I.laidN hm.keeps hm.new hn (exO_ok ht ⟨rfl, rfl⟩ rfl rfl rfl (show 4 < 6 by decide)), rfl, h a hn⟩
end
/-! ### what stands of all classes at once -/
def kitEB (K : PySem.W.Frag) (C : Addr) : Bool := (PySem.W.clsIn K C).isSome && (decide (PySem.W.findIn K (.ref C) "__getattribute__" = some (some (.builtin "BaseException.__getattribute__"))) && (decide (PySem.W.findIn K (.ref C) "__getattr__" = some none) &&
  (decide (PySem.W.subIn K (.ref C) (.type "BaseException") = some true) && (decide (PySem.W.findIn K (.ref C) "__class__" = some (some (.builtin "object.__class__"))) && (decide (PySem.W.specialIn K (.builtin "object.__class__") "__get__" = some (some (.builtin "getset_descriptor.__get__"))) &&
  (decide (PySem.W.takesIn K (.builtin "object.__class__") = some true) && decide (PySem.W.mroIn K C (.type "object") = some true)))))))
theorem kitEB_ok {K : PySem.W.Frag} {C : Addr} (h : kitEB K C = true) : KitE K C := by
  unfold kitEB at h
  simp only [Bool.and_eq_true, decide_eq_true_iff] at h
  obtain ⟨h1, h2, h3, h4, h5, h6, h7, h8⟩ := h
  exact ⟨h1, h2, h3, h4, h5, h6, h7, h8⟩
def kitsE (K : PySem.W.Frag) (cs : List Addr) : Bool := cs.all (kitEB K)
def kitRow (K : PySem.W.Frag) (c : Addr) (cs : List Addr) : Bool := cs.all fun d => decide (PySem.W.kitOne K (.ref c) (.ref d) = some false)
def kitAt (K : PySem.W.Frag) (c : Addr) (i : Nat) : Nat → List Addr → Bool
  | _, [] => true
  | j, d :: r => decide (PySem.W.kitOne K (.ref c) (.ref d) = some (i == j)) && kitAt K c i (j + 1) r
def kitTabAt (K : PySem.W.Frag) (cs : List Addr) : Nat → List Addr → Bool
  | _, [] => true
  | i, c :: r => kitAt K c i 0 cs && kitTabAt K cs (i + 1) r
def kitTab (K : PySem.W.Frag) (cs : List Addr) : Bool := kitTabAt K cs 0 cs
def kitUp (K : PySem.W.Frag) (p c : Addr) : Bool := decide (PySem.W.kitOne K (.ref c) (.ref p) = some true) && (decide (PySem.W.kitOne K (.ref c) (.type "ValueError") = some true) && (decide (PySem.W.kitOne K (.ref c) (.type "KeyError") = some false) && (decide (PySem.W.kitOne K (.ref c) (.type "IndexError") = some false) && decide (PySem.W.kitOne K (.ref c) (.type "TypeError") = some false))))
def kitUps (K : PySem.W.Frag) (p : Addr) (cs : List Addr) : Bool := cs.all (kitUp K p)
theorem kitAt_get {K : PySem.W.Frag} {c : Addr} {i : Nat} : ∀ {cs : List Addr} {j k : Nat} {d : Addr}, kitAt K c i k cs = true → cs[j]? = some d → PySem.W.kitOne K (.ref c) (.ref d) = some (i == k + j)
  | [], _, _, _, _, h => by simp at h
  | e :: r, 0, k, d, h, hj => by
    cases hj
    exact of_decide_eq_true (Bool.and_eq_true_iff.mp h).1
  | e :: r, j + 1, k, d, h, hj => by
    have := kitAt_get (j := j) (Bool.and_eq_true_iff.mp h).2 (by simpa using hj)
    rw [this]
    congr 2
    omega
theorem kitTabAt_get {K : PySem.W.Frag} {cs : List Addr} : ∀ {r : List Addr} {i k : Nat} {c : Addr}, kitTabAt K cs k r = true → r[i]? = some c → kitAt K c (k + i) 0 cs = true
  | [], _, _, _, _, h => by simp at h
  | e :: r, 0, k, c, h, hi => by
    cases hi
    exact (Bool.and_eq_true_iff.mp h).1
  | e :: r, i + 1, k, c, h, hi => by
    have := kitTabAt_get (i := i) (Bool.and_eq_true_iff.mp h).2 (by simpa using hi)
    rw [show k + (i + 1) = k + 1 + i by omega]
    exact this
theorem kitTab_get {K : PySem.W.Frag} {cs : List Addr} {i j : Nat} {c d : Addr} (h : kitTab K cs = true) (hi : cs[i]? = some c) (hj : cs[j]? = some d) : PySem.W.kitOne K (.ref c) (.ref d) = some (i == j) := by
  have := kitAt_get (kitTabAt_get h hi) hj
  rw [this]
  congr 2 <;> omega
theorem kitsE_get {K : PySem.W.Frag} {cs : List Addr} {c : Addr} (h : kitsE K cs = true) (hc : c ∈ cs) : KitE K c := kitEB_ok (List.all_eq_true.mp h _ hc)
theorem kitRow_get {K : PySem.W.Frag} {cs : List Addr} {c d : Addr} (h : kitRow K c cs = true) (hd : d ∈ cs) : PySem.W.kitOne K (.ref c) (.ref d) = some false := of_decide_eq_true (List.all_eq_true.mp h _ hd)
theorem kitUps_get {K : PySem.W.Frag} {cs : List Addr} {p c : Addr} (h : kitUps K p cs = true) (hc : c ∈ cs) : PySem.W.kitOne K (.ref c) (.ref p) = some true ∧ PySem.W.kitOne K (.ref c) (.type "ValueError") = some true ∧ PySem.W.kitOne K (.ref c) (.type "KeyError") = some false ∧ PySem.W.kitOne K (.ref c) (.type "IndexError") = some false ∧ PySem.W.kitOne K (.ref c) (.type "TypeError") = some false := by
  have h' := List.all_eq_true.mp h _ hc
  unfold kitUp at h'
  simp only [Bool.and_eq_true, decide_eq_true_iff] at h'
  exact h'
/-- an exception with one field, made -/
def MadeX (H : Hp) (a C : Addr) (f : Str) (v : V) : Prop := ∃ d, H a = some (exo a C (some d)) ∧ H d = some (exd d [(f, v)])
theorem MadeX.mono {H H' : Hp} {a C : Addr} {f : Str} {v : V} (s : Same H H') (h : MadeX H a C f v) : MadeX H' a C f v := by
  obtain ⟨d, h1, h2⟩ := h
  exact ⟨d, s _ _ h1, s _ _ h2⟩
theorem MadeX.at {H : Hp} {a C : Addr} {f : Str} {v : V} (h : MadeX H a C f v) : EAt H a C := by
  obtain ⟨d, h1, h2⟩ := h
  exact .inr ⟨d, _, h1, h2⟩
theorem EAt.mono {H H' : Hp} {a C : Addr} (s : Same H H') (h : EAt H a C) : EAt H' a C := by
  rcases h with h | ⟨d, fs, h1, h2⟩
  · exact .inl (s _ _ h)
  · exact .inr ⟨d, fs, s _ _ h1, s _ _ h2⟩
theorem made_x {H : Hp} {a dx C : Addr} {f : Str} {v : V} (ha : H a = none) (hdx : upd H a (exo a C none) dx = none) (ne : dx ≠ a) : Same H (upd (upd (upd H a (exo a C none)) dx (exd dx [(f, v)])) a (exo a C (some dx))) ∧ MadeX (upd (upd (upd H a (exo a C none)) dx (exd dx [(f, v)])) a (exo a C (some dx))) a C f v := by
  refine ⟨fun b o e => ?_, dx, upd_same, by rw [upd_ne ne, upd_same]⟩
  have nb : b ≠ a := ne_of_none e ha
  rw [upd_ne ne] at hdx
  have nd : b ≠ dx := ne_of_none e hdx
  rw [upd_ne nb, upd_ne nd, upd_ne nb]
  exact e
theorem upd_known {H : Hp} {a : Addr} {o : HO} (h : H a = none) : ∃ G, G = upd H a o ∧ Same H G ∧ G a = some o := ⟨_, rfl, same_new h, upd_same⟩
/-! ### the things -/
abbrev dA : List (Key × V) := [(Sum.inr (Str.ofString "a"), .int 1)]
/-- data, or the dict {'a': 1} -/
inductive ThV (K : PySem.W.Frag) (H : Hp) : V → Prop where
  | dat {v : V} {d : PyData} : Dp K H v d → SeqAt.shaped d = true → ThV K H v
  | dic {a : Addr} : H a = some (.dK dA) → ThV K H (.ref a)
theorem ThV.mono {K : PySem.W.Frag} {H H' : Hp} (s : Same H H') {v : V} (h : ThV K H v) : ThV K H' v := by
  cases h with
  | dat a b => exact .dat (dp_mono s a) b
  | dic a => exact .dic (s _ _ a)
theorem ThV.ty {K : PySem.W.Frag} {H : Hp} {v : V} (h : ThV K H v) : ∃ o, TyX K H v (.type (tyO o)) := by
  cases h with
  | dat a b => exact ⟨some _, dp_ty a⟩
  | dic a => exact ⟨none, .base (.dK a)⟩
def rNeT (K : PySem.W.Frag) : R2 := fun x y H Q => rNeD K x y H Q ∨ rNeDA x y H Q
theorem op_neT {X : Cx} (hu : X.A.units + 64 < cLine) : OpR X (compareOp .NotEq) (rNeT X.K) := fun pins s σ H x y v u Q I rx ry h => h.elim (op_neD hu pins s σ H x y v u Q I rx ry) (op_ne_dictA (by omega) pins s σ H x y v u Q I rx ry)
theorem ne_same {K : PySem.W.Frag} {H : Hp} {v : V} {Q : VK} (h : ThV K H v) (q : Q (.bl false) H) : rNeT K v v H Q := by
  cases h with
  | @dat _ d a b =>
    refine .inl ⟨d, d, a, a, b, b, ?_⟩
    rw [SeqAt.eqv_refl _ (shaped_iff.mp b).1]
    exact q
  | dic a => exact .inr ⟨_, _, dA, dA, rfl, rfl, a, a, rfl, (fun p hp => by cases List.mem_singleton.mp hp; exact ⟨by simp [valV], rfl⟩), q⟩
def sp_classes (K : PySem.W.Frag) (cs : List Addr) : Sp := fun vs H Q _ => ∃ (a C : Addr) (bits : Nat → Bool), vs = [.ref a] ∧ EAt H a C ∧ KitE K C ∧ (∀ j d, cs[j]? = some d → PySem.W.kitOne K (.ref C) (.ref d) = some (bits j)) ∧ ∀ p H', Same H H' → H' p = some (.lst (((List.range 38).filter bits).map fun j => V.int ((j : Nat) : Int))) → Q (.ref p) H'
def sp_under (K : PySem.W.Frag) (cp : Addr) : Sp := fun vs H Q _ => ∃ (a C : Addr), vs = [.ref a] ∧ EAt H a C ∧ KitE K C ∧ kitUp K cp C = true ∧ Q (.bl true) H
/-- the exceptions at as, made of v, one of each class -/
inductive AllX (v : V) : Hp → List Addr → List (Addr × Option Str) → Prop where
  | nil {H : Hp} : AllX v H [] []
  | fld {H : Hp} {a C : Addr} {f : Str} {as : List Addr} {cs : List (Addr × Option Str)} : MadeX H a C f v → AllX v H as cs → AllX v H (a :: as) ((C, some f) :: cs)
  | bare {H : Hp} {a C : Addr} {as : List Addr} {cs : List (Addr × Option Str)} : H a = some (ExO (.ref C) a) → AllX v H as cs → AllX v H (a :: as) ((C, none) :: cs)
theorem AllX.mono {v : V} {H H' : Hp} (s : Same H H') : ∀ {as : List Addr} {cs : List (Addr × Option Str)}, AllX v H as cs → AllX v H' as cs
  | _, _, .nil => .nil
  | _, _, .fld h r => .fld (h.mono s) (AllX.mono s r)
  | _, _, .bare h r => .bare (s _ _ h) (AllX.mono s r)
theorem AllX.app {v : V} {H : Hp} : ∀ {as bs : List Addr} {cs ds : List (Addr × Option Str)}, AllX v H as cs → AllX v H bs ds → AllX v H (as ++ bs) (cs ++ ds)
  | _, _, _, _, .nil, k => k
  | _, _, _, _, .fld h r, k => .fld h (AllX.app r k)
  | _, _, _, _, .bare h r, k => .bare h (AllX.app r k)
theorem AllX.len {v : V} {H : Hp} : ∀ {as : List Addr} {cs : List (Addr × Option Str)}, AllX v H as cs → as.length = cs.length
  | _, _, .nil => rfl
  | _, _, .fld _ r => congrArg (· + 1) (AllX.len r)
  | _, _, .bare _ r => congrArg (· + 1) (AllX.len r)
theorem AllX.get {v : V} {H : Hp} : ∀ {as : List Addr} {cs : List (Addr × Option Str)} {i : Nat} {a : Addr}, AllX v H as cs → as[i]? = some a → ∃ c, cs[i]? = some c ∧ EAt H a c.1 ∧ ∀ f, c.2 = some f → MadeX H a c.1 f v
  | _, _, _, _, .nil, h => by simp at h
  | _, _, 0, _, .fld h r, e => by
    cases e
    exact ⟨_, rfl, h.at, fun f ef => by cases ef; exact h⟩
  | _, _, 0, _, .bare h r, e => by
    cases e
    exact ⟨_, rfl, .inl h, fun f ef => by cases ef⟩
  | _, _, i + 1, _, .fld h r, e => AllX.get (i := i) r (by simpa using e)
  | _, _, i + 1, _, .bare h r, e => AllX.get (i := i) r (by simpa using e)
def sp_made (cs : List (Addr × Option Str)) : Sp := fun vs H Q _ => ∃ v : V, vs = [v] ∧ ∀ (p : Addr) (as : List Addr) (H' : Hp), Same H H' → AllX v H' as cs → H' p = some (.lst (as.map V.ref)) → Q (.ref p) H'
def sp_fields (cs : List (Addr × Option Str)) : Sp := fun vs H Q _ => ∃ (p : Addr) (as : List Addr) (v : V), vs = [.ref p] ∧ AllX v H as cs ∧ H p = some (.lst (as.map V.ref)) ∧ ∀ (q : Addr) (H' : Hp), Same H H' → H' q = some (.lst (List.replicate 33 v)) → Q (.ref q) H'
set_option maxHeartbeats 0
/-- what the top has written -/
structure Txt (K : PySem.W.Frag) (mg : Str → Option Value) where
  f_InvalidName_init : Addr
  fd_InvalidName_init : FuncData
  F_InvalidName_init : Fun K "__init__" "InvalidName.__init__" s_InvalidName_init f_InvalidName_init fd_InvalidName_init
  b_InvalidName_init : Binds K fd_InvalidName_init ["self", "value"] []
  f_InvalidKey_init : Addr
  fd_InvalidKey_init : FuncData
  F_InvalidKey_init : Fun K "__init__" "InvalidKey.__init__" s_InvalidKey_init f_InvalidKey_init fd_InvalidKey_init
  b_InvalidKey_init : Binds K fd_InvalidKey_init ["self", "value"] []
  f_InvalidSpan_init : Addr
  fd_InvalidSpan_init : FuncData
  F_InvalidSpan_init : Fun K "__init__" "InvalidSpan.__init__" s_InvalidSpan_init f_InvalidSpan_init fd_InvalidSpan_init
  b_InvalidSpan_init : Binds K fd_InvalidSpan_init ["self", "value"] []
  f_InvalidSpans_init : Addr
  fd_InvalidSpans_init : FuncData
  F_InvalidSpans_init : Fun K "__init__" "InvalidSpans.__init__" s_InvalidSpans_init f_InvalidSpans_init fd_InvalidSpans_init
  b_InvalidSpans_init : Binds K fd_InvalidSpans_init ["self", "value"] []
  f_InvalidCatalog_init : Addr
  fd_InvalidCatalog_init : FuncData
  F_InvalidCatalog_init : Fun K "__init__" "InvalidCatalog.__init__" s_InvalidCatalog_init f_InvalidCatalog_init fd_InvalidCatalog_init
  b_InvalidCatalog_init : Binds K fd_InvalidCatalog_init ["self", "value"] []
  f_InvalidChange_init : Addr
  fd_InvalidChange_init : FuncData
  F_InvalidChange_init : Fun K "__init__" "InvalidChange.__init__" s_InvalidChange_init f_InvalidChange_init fd_InvalidChange_init
  b_InvalidChange_init : Binds K fd_InvalidChange_init ["self", "value"] []
  f_InvalidModes_init : Addr
  fd_InvalidModes_init : FuncData
  F_InvalidModes_init : Fun K "__init__" "InvalidModes.__init__" s_InvalidModes_init f_InvalidModes_init fd_InvalidModes_init
  b_InvalidModes_init : Binds K fd_InvalidModes_init ["self", "value"] []
  f_InvalidClash_init : Addr
  fd_InvalidClash_init : FuncData
  F_InvalidClash_init : Fun K "__init__" "InvalidClash.__init__" s_InvalidClash_init f_InvalidClash_init fd_InvalidClash_init
  b_InvalidClash_init : Binds K fd_InvalidClash_init ["self", "value"] []
  f_InvalidStrengths_init : Addr
  fd_InvalidStrengths_init : FuncData
  F_InvalidStrengths_init : Fun K "__init__" "InvalidStrengths.__init__" s_InvalidStrengths_init f_InvalidStrengths_init fd_InvalidStrengths_init
  b_InvalidStrengths_init : Binds K fd_InvalidStrengths_init ["self", "value"] []
  f_InvalidProgram_init : Addr
  fd_InvalidProgram_init : FuncData
  F_InvalidProgram_init : Fun K "__init__" "InvalidProgram.__init__" s_InvalidProgram_init f_InvalidProgram_init fd_InvalidProgram_init
  b_InvalidProgram_init : Binds K fd_InvalidProgram_init ["self", "value"] []
  f_InvalidPrograms_init : Addr
  fd_InvalidPrograms_init : FuncData
  F_InvalidPrograms_init : Fun K "__init__" "InvalidPrograms.__init__" s_InvalidPrograms_init f_InvalidPrograms_init fd_InvalidPrograms_init
  b_InvalidPrograms_init : Binds K fd_InvalidPrograms_init ["self", "value"] []
  f_InvalidProtocol_init : Addr
  fd_InvalidProtocol_init : FuncData
  F_InvalidProtocol_init : Fun K "__init__" "InvalidProtocol.__init__" s_InvalidProtocol_init f_InvalidProtocol_init fd_InvalidProtocol_init
  b_InvalidProtocol_init : Binds K fd_InvalidProtocol_init ["self", "value"] []
  f_InvalidRows_init : Addr
  fd_InvalidRows_init : FuncData
  F_InvalidRows_init : Fun K "__init__" "InvalidRows.__init__" s_InvalidRows_init f_InvalidRows_init fd_InvalidRows_init
  b_InvalidRows_init : Binds K fd_InvalidRows_init ["self", "value"] []
  f_InvalidSession_init : Addr
  fd_InvalidSession_init : FuncData
  F_InvalidSession_init : Fun K "__init__" "InvalidSession.__init__" s_InvalidSession_init f_InvalidSession_init fd_InvalidSession_init
  b_InvalidSession_init : Binds K fd_InvalidSession_init ["self", "value"] []
  f_InvalidNumber_init : Addr
  fd_InvalidNumber_init : FuncData
  F_InvalidNumber_init : Fun K "__init__" "InvalidNumber.__init__" s_InvalidNumber_init f_InvalidNumber_init fd_InvalidNumber_init
  b_InvalidNumber_init : Binds K fd_InvalidNumber_init ["self", "value"] []
  f_InvalidWeaving_init : Addr
  fd_InvalidWeaving_init : FuncData
  F_InvalidWeaving_init : Fun K "__init__" "InvalidWeaving.__init__" s_InvalidWeaving_init f_InvalidWeaving_init fd_InvalidWeaving_init
  b_InvalidWeaving_init : Binds K fd_InvalidWeaving_init ["self", "value"] []
  f_InvalidStore_init : Addr
  fd_InvalidStore_init : FuncData
  F_InvalidStore_init : Fun K "__init__" "InvalidStore.__init__" s_InvalidStore_init f_InvalidStore_init fd_InvalidStore_init
  b_InvalidStore_init : Binds K fd_InvalidStore_init ["self", "value"] []
  f_InvalidScene_init : Addr
  fd_InvalidScene_init : FuncData
  F_InvalidScene_init : Fun K "__init__" "InvalidScene.__init__" s_InvalidScene_init f_InvalidScene_init fd_InvalidScene_init
  b_InvalidScene_init : Binds K fd_InvalidScene_init ["self", "value"] []
  f_InvalidLog_init : Addr
  fd_InvalidLog_init : FuncData
  F_InvalidLog_init : Fun K "__init__" "InvalidLog.__init__" s_InvalidLog_init f_InvalidLog_init fd_InvalidLog_init
  b_InvalidLog_init : Binds K fd_InvalidLog_init ["self", "value"] []
  f_InvalidText_init : Addr
  fd_InvalidText_init : FuncData
  F_InvalidText_init : Fun K "__init__" "InvalidText.__init__" s_InvalidText_init f_InvalidText_init fd_InvalidText_init
  b_InvalidText_init : Binds K fd_InvalidText_init ["self", "value"] []
  f_InvalidCommand_init : Addr
  fd_InvalidCommand_init : FuncData
  F_InvalidCommand_init : Fun K "__init__" "InvalidCommand.__init__" s_InvalidCommand_init f_InvalidCommand_init fd_InvalidCommand_init
  b_InvalidCommand_init : Binds K fd_InvalidCommand_init ["self", "value"] []
  f_Duplicate_init : Addr
  fd_Duplicate_init : FuncData
  F_Duplicate_init : Fun K "__init__" "Duplicate.__init__" s_Duplicate_init f_Duplicate_init fd_Duplicate_init
  b_Duplicate_init : Binds K fd_Duplicate_init ["self", "name"] []
  f_UnknownPart_init : Addr
  fd_UnknownPart_init : FuncData
  F_UnknownPart_init : Fun K "__init__" "UnknownPart.__init__" s_UnknownPart_init f_UnknownPart_init fd_UnknownPart_init
  b_UnknownPart_init : Binds K fd_UnknownPart_init ["self", "name"] []
  f_UnknownMode_init : Addr
  fd_UnknownMode_init : FuncData
  F_UnknownMode_init : Fun K "__init__" "UnknownMode.__init__" s_UnknownMode_init f_UnknownMode_init fd_UnknownMode_init
  b_UnknownMode_init : Binds K fd_UnknownMode_init ["self", "name"] []
  f_UnknownEntry_init : Addr
  fd_UnknownEntry_init : FuncData
  F_UnknownEntry_init : Fun K "__init__" "UnknownEntry.__init__" s_UnknownEntry_init f_UnknownEntry_init fd_UnknownEntry_init
  b_UnknownEntry_init : Binds K fd_UnknownEntry_init ["self", "name"] []
  f_NameTaken_init : Addr
  fd_NameTaken_init : FuncData
  F_NameTaken_init : Fun K "__init__" "NameTaken.__init__" s_NameTaken_init f_NameTaken_init fd_NameTaken_init
  b_NameTaken_init : Binds K fd_NameTaken_init ["self", "name"] []
  f_Overlap_init : Addr
  fd_Overlap_init : FuncData
  F_Overlap_init : Fun K "__init__" "Overlap.__init__" s_Overlap_init f_Overlap_init fd_Overlap_init
  b_Overlap_init : Binds K fd_Overlap_init ["self", "name"] []
  f_NotInside_init : Addr
  fd_NotInside_init : FuncData
  F_NotInside_init : Fun K "__init__" "NotInside.__init__" s_NotInside_init f_NotInside_init fd_NotInside_init
  b_NotInside_init : Binds K fd_NotInside_init ["self", "at"] []
  f_NotNeighbours_init : Addr
  fd_NotNeighbours_init : FuncData
  F_NotNeighbours_init : Fun K "__init__" "NotNeighbours.__init__" s_NotNeighbours_init f_NotNeighbours_init fd_NotNeighbours_init
  b_NotNeighbours_init : Binds K fd_NotNeighbours_init ["self", "name"] []
  f_NoProgram_init : Addr
  fd_NoProgram_init : FuncData
  F_NoProgram_init : Fun K "__init__" "NoProgram.__init__" s_NoProgram_init f_NoProgram_init fd_NoProgram_init
  b_NoProgram_init : Binds K fd_NoProgram_init ["self", "kind"] []
  f_TooMany_init : Addr
  fd_TooMany_init : FuncData
  F_TooMany_init : Fun K "__init__" "TooMany.__init__" s_TooMany_init f_TooMany_init fd_TooMany_init
  b_TooMany_init : Binds K fd_TooMany_init ["self", "bound"] []
  f_Ended_init : Addr
  fd_Ended_init : FuncData
  F_Ended_init : Fun K "__init__" "Ended.__init__" s_Ended_init f_Ended_init fd_Ended_init
  b_Ended_init : Binds K fd_Ended_init ["self", "number"] []
  f_Waiting_init : Addr
  fd_Waiting_init : FuncData
  F_Waiting_init : Fun K "__init__" "Waiting.__init__" s_Waiting_init f_Waiting_init fd_Waiting_init
  b_Waiting_init : Binds K fd_Waiting_init ["self", "number"] []
  f_law_cell : Addr
  fd_law_cell : FuncData
  F_law_cell : Fun K "_law_cell" "_law_cell" s_law_cell f_law_cell fd_law_cell
  b_law_cell : Binds K fd_law_cell ["_law_script", "_law_k"] []
  m_law_cell : mg "_law_cell" = some (.ref f_law_cell)
  f_law_box : Addr
  fd_law_box : FuncData
  F_law_box : Fun K "_law_box" "_law_box" s_law_box f_law_box fd_law_box
  b_law_box : Binds K fd_law_box ["_law_cell_here"] []
  m_law_box : mg "_law_box" = some (.ref f_law_box)
  f_law_take : Addr
  fd_law_take : FuncData
  F_law_take : Fun K "_law_take" "_law_take" s_law_take f_law_take fd_law_take
  b_law_take : Binds K fd_law_take ["_law_box_here", "_law_many"] []
  m_law_take : mg "_law_take" = some (.ref f_law_take)
  f_law_made : Addr
  fd_law_made : FuncData
  F_law_made : Fun K "_law_made" "_law_made" s_law_made f_law_made fd_law_made
  b_law_made : Binds K fd_law_made ["_law_thing"] []
  m_law_made : mg "_law_made" = some (.ref f_law_made)
  f_law_classes : Addr
  fd_law_classes : FuncData
  F_law_classes : Fun K "_law_classes" "_law_classes" s_law_classes f_law_classes fd_law_classes
  b_law_classes : Binds K fd_law_classes ["_law_error"] []
  m_law_classes : mg "_law_classes" = some (.ref f_law_classes)
  f_law_fields : Addr
  fd_law_fields : FuncData
  F_law_fields : Fun K "_law_fields" "_law_fields" s_law_fields f_law_fields fd_law_fields
  b_law_fields : Binds K fd_law_fields ["_law_made_here"] []
  m_law_fields : mg "_law_fields" = some (.ref f_law_fields)
  f_law_under : Addr
  fd_law_under : FuncData
  F_law_under : Fun K "_law_under" "_law_under" s_law_under f_law_under fd_law_under
  b_law_under : Binds K fd_law_under ["_law_error"] []
  m_law_under : mg "_law_under" = some (.ref f_law_under)
  f_law : Addr
  fd_law : FuncData
  F_law : Fun K "law" "law" s_law f_law fd_law
  b_law : Binds K fd_law ["_law_script"] []
  m_law : mg "law" = some (.ref f_law)
  C_PartsError : Addr
  g_PartsError : mg "PartsError" = some (.ref C_PartsError)
  C_InvalidName : Addr
  g_InvalidName : mg "InvalidName" = some (.ref C_InvalidName)
  x_InvalidName : OexC K C_InvalidName
  y_InvalidName : XfC K C_InvalidName
  n_InvalidName : PySem.W.findIn K (.ref C_InvalidName) "value" = some none
  i_InvalidName : PySem.W.findIn K (.ref C_InvalidName) "__init__" = some (some (.ref f_InvalidName_init))
  t_InvalidName : PySem.W.typeIn K (.ref f_InvalidName_init) = some (.type "function")
  C_InvalidKey : Addr
  g_InvalidKey : mg "InvalidKey" = some (.ref C_InvalidKey)
  x_InvalidKey : OexC K C_InvalidKey
  y_InvalidKey : XfC K C_InvalidKey
  n_InvalidKey : PySem.W.findIn K (.ref C_InvalidKey) "value" = some none
  i_InvalidKey : PySem.W.findIn K (.ref C_InvalidKey) "__init__" = some (some (.ref f_InvalidKey_init))
  t_InvalidKey : PySem.W.typeIn K (.ref f_InvalidKey_init) = some (.type "function")
  C_InvalidSpan : Addr
  g_InvalidSpan : mg "InvalidSpan" = some (.ref C_InvalidSpan)
  x_InvalidSpan : OexC K C_InvalidSpan
  y_InvalidSpan : XfC K C_InvalidSpan
  n_InvalidSpan : PySem.W.findIn K (.ref C_InvalidSpan) "value" = some none
  i_InvalidSpan : PySem.W.findIn K (.ref C_InvalidSpan) "__init__" = some (some (.ref f_InvalidSpan_init))
  t_InvalidSpan : PySem.W.typeIn K (.ref f_InvalidSpan_init) = some (.type "function")
  C_InvalidSpans : Addr
  g_InvalidSpans : mg "InvalidSpans" = some (.ref C_InvalidSpans)
  x_InvalidSpans : OexC K C_InvalidSpans
  y_InvalidSpans : XfC K C_InvalidSpans
  n_InvalidSpans : PySem.W.findIn K (.ref C_InvalidSpans) "value" = some none
  i_InvalidSpans : PySem.W.findIn K (.ref C_InvalidSpans) "__init__" = some (some (.ref f_InvalidSpans_init))
  t_InvalidSpans : PySem.W.typeIn K (.ref f_InvalidSpans_init) = some (.type "function")
  C_InvalidCatalog : Addr
  g_InvalidCatalog : mg "InvalidCatalog" = some (.ref C_InvalidCatalog)
  x_InvalidCatalog : OexC K C_InvalidCatalog
  y_InvalidCatalog : XfC K C_InvalidCatalog
  n_InvalidCatalog : PySem.W.findIn K (.ref C_InvalidCatalog) "value" = some none
  i_InvalidCatalog : PySem.W.findIn K (.ref C_InvalidCatalog) "__init__" = some (some (.ref f_InvalidCatalog_init))
  t_InvalidCatalog : PySem.W.typeIn K (.ref f_InvalidCatalog_init) = some (.type "function")
  C_InvalidChange : Addr
  g_InvalidChange : mg "InvalidChange" = some (.ref C_InvalidChange)
  x_InvalidChange : OexC K C_InvalidChange
  y_InvalidChange : XfC K C_InvalidChange
  n_InvalidChange : PySem.W.findIn K (.ref C_InvalidChange) "value" = some none
  i_InvalidChange : PySem.W.findIn K (.ref C_InvalidChange) "__init__" = some (some (.ref f_InvalidChange_init))
  t_InvalidChange : PySem.W.typeIn K (.ref f_InvalidChange_init) = some (.type "function")
  C_InvalidModes : Addr
  g_InvalidModes : mg "InvalidModes" = some (.ref C_InvalidModes)
  x_InvalidModes : OexC K C_InvalidModes
  y_InvalidModes : XfC K C_InvalidModes
  n_InvalidModes : PySem.W.findIn K (.ref C_InvalidModes) "value" = some none
  i_InvalidModes : PySem.W.findIn K (.ref C_InvalidModes) "__init__" = some (some (.ref f_InvalidModes_init))
  t_InvalidModes : PySem.W.typeIn K (.ref f_InvalidModes_init) = some (.type "function")
  C_InvalidClash : Addr
  g_InvalidClash : mg "InvalidClash" = some (.ref C_InvalidClash)
  x_InvalidClash : OexC K C_InvalidClash
  y_InvalidClash : XfC K C_InvalidClash
  n_InvalidClash : PySem.W.findIn K (.ref C_InvalidClash) "value" = some none
  i_InvalidClash : PySem.W.findIn K (.ref C_InvalidClash) "__init__" = some (some (.ref f_InvalidClash_init))
  t_InvalidClash : PySem.W.typeIn K (.ref f_InvalidClash_init) = some (.type "function")
  C_InvalidStrengths : Addr
  g_InvalidStrengths : mg "InvalidStrengths" = some (.ref C_InvalidStrengths)
  x_InvalidStrengths : OexC K C_InvalidStrengths
  y_InvalidStrengths : XfC K C_InvalidStrengths
  n_InvalidStrengths : PySem.W.findIn K (.ref C_InvalidStrengths) "value" = some none
  i_InvalidStrengths : PySem.W.findIn K (.ref C_InvalidStrengths) "__init__" = some (some (.ref f_InvalidStrengths_init))
  t_InvalidStrengths : PySem.W.typeIn K (.ref f_InvalidStrengths_init) = some (.type "function")
  C_InvalidProgram : Addr
  g_InvalidProgram : mg "InvalidProgram" = some (.ref C_InvalidProgram)
  x_InvalidProgram : OexC K C_InvalidProgram
  y_InvalidProgram : XfC K C_InvalidProgram
  n_InvalidProgram : PySem.W.findIn K (.ref C_InvalidProgram) "value" = some none
  i_InvalidProgram : PySem.W.findIn K (.ref C_InvalidProgram) "__init__" = some (some (.ref f_InvalidProgram_init))
  t_InvalidProgram : PySem.W.typeIn K (.ref f_InvalidProgram_init) = some (.type "function")
  C_InvalidPrograms : Addr
  g_InvalidPrograms : mg "InvalidPrograms" = some (.ref C_InvalidPrograms)
  x_InvalidPrograms : OexC K C_InvalidPrograms
  y_InvalidPrograms : XfC K C_InvalidPrograms
  n_InvalidPrograms : PySem.W.findIn K (.ref C_InvalidPrograms) "value" = some none
  i_InvalidPrograms : PySem.W.findIn K (.ref C_InvalidPrograms) "__init__" = some (some (.ref f_InvalidPrograms_init))
  t_InvalidPrograms : PySem.W.typeIn K (.ref f_InvalidPrograms_init) = some (.type "function")
  C_InvalidProtocol : Addr
  g_InvalidProtocol : mg "InvalidProtocol" = some (.ref C_InvalidProtocol)
  x_InvalidProtocol : OexC K C_InvalidProtocol
  y_InvalidProtocol : XfC K C_InvalidProtocol
  n_InvalidProtocol : PySem.W.findIn K (.ref C_InvalidProtocol) "value" = some none
  i_InvalidProtocol : PySem.W.findIn K (.ref C_InvalidProtocol) "__init__" = some (some (.ref f_InvalidProtocol_init))
  t_InvalidProtocol : PySem.W.typeIn K (.ref f_InvalidProtocol_init) = some (.type "function")
  C_InvalidRows : Addr
  g_InvalidRows : mg "InvalidRows" = some (.ref C_InvalidRows)
  x_InvalidRows : OexC K C_InvalidRows
  y_InvalidRows : XfC K C_InvalidRows
  n_InvalidRows : PySem.W.findIn K (.ref C_InvalidRows) "value" = some none
  i_InvalidRows : PySem.W.findIn K (.ref C_InvalidRows) "__init__" = some (some (.ref f_InvalidRows_init))
  t_InvalidRows : PySem.W.typeIn K (.ref f_InvalidRows_init) = some (.type "function")
  C_InvalidSession : Addr
  g_InvalidSession : mg "InvalidSession" = some (.ref C_InvalidSession)
  x_InvalidSession : OexC K C_InvalidSession
  y_InvalidSession : XfC K C_InvalidSession
  n_InvalidSession : PySem.W.findIn K (.ref C_InvalidSession) "value" = some none
  i_InvalidSession : PySem.W.findIn K (.ref C_InvalidSession) "__init__" = some (some (.ref f_InvalidSession_init))
  t_InvalidSession : PySem.W.typeIn K (.ref f_InvalidSession_init) = some (.type "function")
  C_InvalidNumber : Addr
  g_InvalidNumber : mg "InvalidNumber" = some (.ref C_InvalidNumber)
  x_InvalidNumber : OexC K C_InvalidNumber
  y_InvalidNumber : XfC K C_InvalidNumber
  n_InvalidNumber : PySem.W.findIn K (.ref C_InvalidNumber) "value" = some none
  i_InvalidNumber : PySem.W.findIn K (.ref C_InvalidNumber) "__init__" = some (some (.ref f_InvalidNumber_init))
  t_InvalidNumber : PySem.W.typeIn K (.ref f_InvalidNumber_init) = some (.type "function")
  C_InvalidWeaving : Addr
  g_InvalidWeaving : mg "InvalidWeaving" = some (.ref C_InvalidWeaving)
  x_InvalidWeaving : OexC K C_InvalidWeaving
  y_InvalidWeaving : XfC K C_InvalidWeaving
  n_InvalidWeaving : PySem.W.findIn K (.ref C_InvalidWeaving) "value" = some none
  i_InvalidWeaving : PySem.W.findIn K (.ref C_InvalidWeaving) "__init__" = some (some (.ref f_InvalidWeaving_init))
  t_InvalidWeaving : PySem.W.typeIn K (.ref f_InvalidWeaving_init) = some (.type "function")
  C_InvalidStore : Addr
  g_InvalidStore : mg "InvalidStore" = some (.ref C_InvalidStore)
  x_InvalidStore : OexC K C_InvalidStore
  y_InvalidStore : XfC K C_InvalidStore
  n_InvalidStore : PySem.W.findIn K (.ref C_InvalidStore) "value" = some none
  i_InvalidStore : PySem.W.findIn K (.ref C_InvalidStore) "__init__" = some (some (.ref f_InvalidStore_init))
  t_InvalidStore : PySem.W.typeIn K (.ref f_InvalidStore_init) = some (.type "function")
  C_InvalidScene : Addr
  g_InvalidScene : mg "InvalidScene" = some (.ref C_InvalidScene)
  x_InvalidScene : OexC K C_InvalidScene
  y_InvalidScene : XfC K C_InvalidScene
  n_InvalidScene : PySem.W.findIn K (.ref C_InvalidScene) "value" = some none
  i_InvalidScene : PySem.W.findIn K (.ref C_InvalidScene) "__init__" = some (some (.ref f_InvalidScene_init))
  t_InvalidScene : PySem.W.typeIn K (.ref f_InvalidScene_init) = some (.type "function")
  C_InvalidLog : Addr
  g_InvalidLog : mg "InvalidLog" = some (.ref C_InvalidLog)
  x_InvalidLog : OexC K C_InvalidLog
  y_InvalidLog : XfC K C_InvalidLog
  n_InvalidLog : PySem.W.findIn K (.ref C_InvalidLog) "value" = some none
  i_InvalidLog : PySem.W.findIn K (.ref C_InvalidLog) "__init__" = some (some (.ref f_InvalidLog_init))
  t_InvalidLog : PySem.W.typeIn K (.ref f_InvalidLog_init) = some (.type "function")
  C_InvalidText : Addr
  g_InvalidText : mg "InvalidText" = some (.ref C_InvalidText)
  x_InvalidText : OexC K C_InvalidText
  y_InvalidText : XfC K C_InvalidText
  n_InvalidText : PySem.W.findIn K (.ref C_InvalidText) "value" = some none
  i_InvalidText : PySem.W.findIn K (.ref C_InvalidText) "__init__" = some (some (.ref f_InvalidText_init))
  t_InvalidText : PySem.W.typeIn K (.ref f_InvalidText_init) = some (.type "function")
  C_InvalidCommand : Addr
  g_InvalidCommand : mg "InvalidCommand" = some (.ref C_InvalidCommand)
  x_InvalidCommand : OexC K C_InvalidCommand
  y_InvalidCommand : XfC K C_InvalidCommand
  n_InvalidCommand : PySem.W.findIn K (.ref C_InvalidCommand) "value" = some none
  i_InvalidCommand : PySem.W.findIn K (.ref C_InvalidCommand) "__init__" = some (some (.ref f_InvalidCommand_init))
  t_InvalidCommand : PySem.W.typeIn K (.ref f_InvalidCommand_init) = some (.type "function")
  C_Duplicate : Addr
  g_Duplicate : mg "Duplicate" = some (.ref C_Duplicate)
  x_Duplicate : OexC K C_Duplicate
  y_Duplicate : XfC K C_Duplicate
  n_Duplicate : PySem.W.findIn K (.ref C_Duplicate) "name" = some none
  i_Duplicate : PySem.W.findIn K (.ref C_Duplicate) "__init__" = some (some (.ref f_Duplicate_init))
  t_Duplicate : PySem.W.typeIn K (.ref f_Duplicate_init) = some (.type "function")
  C_UnknownPart : Addr
  g_UnknownPart : mg "UnknownPart" = some (.ref C_UnknownPart)
  x_UnknownPart : OexC K C_UnknownPart
  y_UnknownPart : XfC K C_UnknownPart
  n_UnknownPart : PySem.W.findIn K (.ref C_UnknownPart) "name" = some none
  i_UnknownPart : PySem.W.findIn K (.ref C_UnknownPart) "__init__" = some (some (.ref f_UnknownPart_init))
  t_UnknownPart : PySem.W.typeIn K (.ref f_UnknownPart_init) = some (.type "function")
  C_UnknownMode : Addr
  g_UnknownMode : mg "UnknownMode" = some (.ref C_UnknownMode)
  x_UnknownMode : OexC K C_UnknownMode
  y_UnknownMode : XfC K C_UnknownMode
  n_UnknownMode : PySem.W.findIn K (.ref C_UnknownMode) "name" = some none
  i_UnknownMode : PySem.W.findIn K (.ref C_UnknownMode) "__init__" = some (some (.ref f_UnknownMode_init))
  t_UnknownMode : PySem.W.typeIn K (.ref f_UnknownMode_init) = some (.type "function")
  C_UnknownEntry : Addr
  g_UnknownEntry : mg "UnknownEntry" = some (.ref C_UnknownEntry)
  x_UnknownEntry : OexC K C_UnknownEntry
  y_UnknownEntry : XfC K C_UnknownEntry
  n_UnknownEntry : PySem.W.findIn K (.ref C_UnknownEntry) "name" = some none
  i_UnknownEntry : PySem.W.findIn K (.ref C_UnknownEntry) "__init__" = some (some (.ref f_UnknownEntry_init))
  t_UnknownEntry : PySem.W.typeIn K (.ref f_UnknownEntry_init) = some (.type "function")
  C_NameTaken : Addr
  g_NameTaken : mg "NameTaken" = some (.ref C_NameTaken)
  x_NameTaken : OexC K C_NameTaken
  y_NameTaken : XfC K C_NameTaken
  n_NameTaken : PySem.W.findIn K (.ref C_NameTaken) "name" = some none
  i_NameTaken : PySem.W.findIn K (.ref C_NameTaken) "__init__" = some (some (.ref f_NameTaken_init))
  t_NameTaken : PySem.W.typeIn K (.ref f_NameTaken_init) = some (.type "function")
  C_Overlap : Addr
  g_Overlap : mg "Overlap" = some (.ref C_Overlap)
  x_Overlap : OexC K C_Overlap
  y_Overlap : XfC K C_Overlap
  n_Overlap : PySem.W.findIn K (.ref C_Overlap) "name" = some none
  i_Overlap : PySem.W.findIn K (.ref C_Overlap) "__init__" = some (some (.ref f_Overlap_init))
  t_Overlap : PySem.W.typeIn K (.ref f_Overlap_init) = some (.type "function")
  C_NotInside : Addr
  g_NotInside : mg "NotInside" = some (.ref C_NotInside)
  x_NotInside : OexC K C_NotInside
  y_NotInside : XfC K C_NotInside
  n_NotInside : PySem.W.findIn K (.ref C_NotInside) "at" = some none
  i_NotInside : PySem.W.findIn K (.ref C_NotInside) "__init__" = some (some (.ref f_NotInside_init))
  t_NotInside : PySem.W.typeIn K (.ref f_NotInside_init) = some (.type "function")
  C_NotNeighbours : Addr
  g_NotNeighbours : mg "NotNeighbours" = some (.ref C_NotNeighbours)
  x_NotNeighbours : OexC K C_NotNeighbours
  y_NotNeighbours : XfC K C_NotNeighbours
  n_NotNeighbours : PySem.W.findIn K (.ref C_NotNeighbours) "name" = some none
  i_NotNeighbours : PySem.W.findIn K (.ref C_NotNeighbours) "__init__" = some (some (.ref f_NotNeighbours_init))
  t_NotNeighbours : PySem.W.typeIn K (.ref f_NotNeighbours_init) = some (.type "function")
  C_NoProgram : Addr
  g_NoProgram : mg "NoProgram" = some (.ref C_NoProgram)
  x_NoProgram : OexC K C_NoProgram
  y_NoProgram : XfC K C_NoProgram
  n_NoProgram : PySem.W.findIn K (.ref C_NoProgram) "kind" = some none
  i_NoProgram : PySem.W.findIn K (.ref C_NoProgram) "__init__" = some (some (.ref f_NoProgram_init))
  t_NoProgram : PySem.W.typeIn K (.ref f_NoProgram_init) = some (.type "function")
  C_TooMany : Addr
  g_TooMany : mg "TooMany" = some (.ref C_TooMany)
  x_TooMany : OexC K C_TooMany
  y_TooMany : XfC K C_TooMany
  n_TooMany : PySem.W.findIn K (.ref C_TooMany) "bound" = some none
  i_TooMany : PySem.W.findIn K (.ref C_TooMany) "__init__" = some (some (.ref f_TooMany_init))
  t_TooMany : PySem.W.typeIn K (.ref f_TooMany_init) = some (.type "function")
  C_Ended : Addr
  g_Ended : mg "Ended" = some (.ref C_Ended)
  x_Ended : OexC K C_Ended
  y_Ended : XfC K C_Ended
  n_Ended : PySem.W.findIn K (.ref C_Ended) "number" = some none
  i_Ended : PySem.W.findIn K (.ref C_Ended) "__init__" = some (some (.ref f_Ended_init))
  t_Ended : PySem.W.typeIn K (.ref f_Ended_init) = some (.type "function")
  C_Waiting : Addr
  g_Waiting : mg "Waiting" = some (.ref C_Waiting)
  x_Waiting : OexC K C_Waiting
  y_Waiting : XfC K C_Waiting
  n_Waiting : PySem.W.findIn K (.ref C_Waiting) "number" = some none
  i_Waiting : PySem.W.findIn K (.ref C_Waiting) "__init__" = some (some (.ref f_Waiting_init))
  t_Waiting : PySem.W.typeIn K (.ref f_Waiting_init) = some (.type "function")
  C_NothingBad : Addr
  g_NothingBad : mg "NothingBad" = some (.ref C_NothingBad)
  C_NotRight : Addr
  g_NotRight : mg "NotRight" = some (.ref C_NotRight)
  C_NoStore : Addr
  g_NoStore : mg "NoStore" = some (.ref C_NoStore)
  C_NothingToUndo : Addr
  g_NothingToUndo : mg "NothingToUndo" = some (.ref C_NothingToUndo)
  C_NothingToRedo : Addr
  g_NothingToRedo : mg "NothingToRedo" = some (.ref C_NothingToRedo)
  q_PartsError : PySem.W.excIn K C_PartsError [.type "ValueError", .type "Exception", .type "BaseException", .type "object"] "ValueError.__new__" = true
  kp_PartsError : PySem.W.keepIn K (.ref C_PartsError) = true
  q_NothingBad : PySem.W.excIn K C_NothingBad [.type "ValueError", .type "Exception", .type "BaseException", .type "object"] "ValueError.__new__" = true
  kp_NothingBad : PySem.W.keepIn K (.ref C_NothingBad) = true
  q_NotRight : PySem.W.excIn K C_NotRight [.type "ValueError", .type "Exception", .type "BaseException", .type "object"] "ValueError.__new__" = true
  kp_NotRight : PySem.W.keepIn K (.ref C_NotRight) = true
  q_NoStore : PySem.W.excIn K C_NoStore [.type "ValueError", .type "Exception", .type "BaseException", .type "object"] "ValueError.__new__" = true
  kp_NoStore : PySem.W.keepIn K (.ref C_NoStore) = true
  q_NothingToUndo : PySem.W.excIn K C_NothingToUndo [.type "ValueError", .type "Exception", .type "BaseException", .type "object"] "ValueError.__new__" = true
  kp_NothingToUndo : PySem.W.keepIn K (.ref C_NothingToUndo) = true
  q_NothingToRedo : PySem.W.excIn K C_NothingToRedo [.type "ValueError", .type "Exception", .type "BaseException", .type "object"] "ValueError.__new__" = true
  kp_NothingToRedo : PySem.W.keepIn K (.ref C_NothingToRedo) = true
  ke : kitsE K (C_PartsError :: [C_InvalidName, C_InvalidKey, C_InvalidSpan, C_InvalidSpans, C_InvalidCatalog, C_InvalidChange, C_InvalidModes, C_InvalidClash, C_InvalidStrengths, C_InvalidProgram, C_InvalidPrograms, C_InvalidProtocol, C_InvalidRows, C_InvalidSession, C_InvalidNumber, C_InvalidWeaving, C_InvalidStore, C_InvalidScene, C_InvalidLog, C_InvalidText, C_InvalidCommand, C_Duplicate, C_UnknownPart, C_UnknownMode, C_UnknownEntry, C_NameTaken, C_Overlap, C_NotInside, C_NotNeighbours, C_NoProgram, C_TooMany, C_Ended, C_Waiting, C_NothingBad, C_NotRight, C_NoStore, C_NothingToUndo, C_NothingToRedo]) = true
  tab : kitTab K [C_InvalidName, C_InvalidKey, C_InvalidSpan, C_InvalidSpans, C_InvalidCatalog, C_InvalidChange, C_InvalidModes, C_InvalidClash, C_InvalidStrengths, C_InvalidProgram, C_InvalidPrograms, C_InvalidProtocol, C_InvalidRows, C_InvalidSession, C_InvalidNumber, C_InvalidWeaving, C_InvalidStore, C_InvalidScene, C_InvalidLog, C_InvalidText, C_InvalidCommand, C_Duplicate, C_UnknownPart, C_UnknownMode, C_UnknownEntry, C_NameTaken, C_Overlap, C_NotInside, C_NotNeighbours, C_NoProgram, C_TooMany, C_Ended, C_Waiting, C_NothingBad, C_NotRight, C_NoStore, C_NothingToUndo, C_NothingToRedo] = true
  tabP : kitRow K C_PartsError [C_InvalidName, C_InvalidKey, C_InvalidSpan, C_InvalidSpans, C_InvalidCatalog, C_InvalidChange, C_InvalidModes, C_InvalidClash, C_InvalidStrengths, C_InvalidProgram, C_InvalidPrograms, C_InvalidProtocol, C_InvalidRows, C_InvalidSession, C_InvalidNumber, C_InvalidWeaving, C_InvalidStore, C_InvalidScene, C_InvalidLog, C_InvalidText, C_InvalidCommand, C_Duplicate, C_UnknownPart, C_UnknownMode, C_UnknownEntry, C_NameTaken, C_Overlap, C_NotInside, C_NotNeighbours, C_NoProgram, C_TooMany, C_Ended, C_Waiting, C_NothingBad, C_NotRight, C_NoStore, C_NothingToUndo, C_NothingToRedo] = true
  ups : kitUps K C_PartsError (C_PartsError :: [C_InvalidName, C_InvalidKey, C_InvalidSpan, C_InvalidSpans, C_InvalidCatalog, C_InvalidChange, C_InvalidModes, C_InvalidClash, C_InvalidStrengths, C_InvalidProgram, C_InvalidPrograms, C_InvalidProtocol, C_InvalidRows, C_InvalidSession, C_InvalidNumber, C_InvalidWeaving, C_InvalidStore, C_InvalidScene, C_InvalidLog, C_InvalidText, C_InvalidCommand, C_Duplicate, C_UnknownPart, C_UnknownMode, C_UnknownEntry, C_NameTaken, C_Overlap, C_NotInside, C_NotNeighbours, C_NoProgram, C_TooMany, C_Ended, C_Waiting, C_NothingBad, C_NotRight, C_NoStore, C_NothingToUndo, C_NothingToRedo]) = true
  z_len : mg "len" = none
  z_max : mg "max" = none
  z_isinstance : mg "isinstance" = none
  z_range : mg "range" = none
  z_ValueError : mg "ValueError" = none
  z_KeyError : mg "KeyError" = none
  z_IndexError : mg "IndexError" = none
  z_TypeError : mg "TypeError" = none
  z_min : mg "min" = none
  z_bool : mg "bool" = none

section
variable {P : Program} {w : World} {K : PySem.W.Frag} {mg : Str → Option Value} {base : Heap}
/-- the classes in the order of the law -/
def Cs (T : Txt K mg) : List Addr := [T.C_InvalidName, T.C_InvalidKey, T.C_InvalidSpan, T.C_InvalidSpans, T.C_InvalidCatalog, T.C_InvalidChange, T.C_InvalidModes, T.C_InvalidClash, T.C_InvalidStrengths, T.C_InvalidProgram, T.C_InvalidPrograms, T.C_InvalidProtocol, T.C_InvalidRows, T.C_InvalidSession, T.C_InvalidNumber, T.C_InvalidWeaving, T.C_InvalidStore, T.C_InvalidScene, T.C_InvalidLog, T.C_InvalidText, T.C_InvalidCommand, T.C_Duplicate, T.C_UnknownPart, T.C_UnknownMode, T.C_UnknownEntry, T.C_NameTaken, T.C_Overlap, T.C_NotInside, T.C_NotNeighbours, T.C_NoProgram, T.C_TooMany, T.C_Ended, T.C_Waiting, T.C_NothingBad, T.C_NotRight, T.C_NoStore, T.C_NothingToUndo, T.C_NothingToRedo]
def Ps (T : Txt K mg) : List (Addr × Option Str) := [(T.C_InvalidName, some ("value" : Str)), (T.C_InvalidKey, some ("value" : Str)), (T.C_InvalidSpan, some ("value" : Str)), (T.C_InvalidSpans, some ("value" : Str)), (T.C_InvalidCatalog, some ("value" : Str)), (T.C_InvalidChange, some ("value" : Str)), (T.C_InvalidModes, some ("value" : Str)), (T.C_InvalidClash, some ("value" : Str)), (T.C_InvalidStrengths, some ("value" : Str)), (T.C_InvalidProgram, some ("value" : Str)), (T.C_InvalidPrograms, some ("value" : Str)), (T.C_InvalidProtocol, some ("value" : Str)), (T.C_InvalidRows, some ("value" : Str)), (T.C_InvalidSession, some ("value" : Str)), (T.C_InvalidNumber, some ("value" : Str)), (T.C_InvalidWeaving, some ("value" : Str)), (T.C_InvalidStore, some ("value" : Str)), (T.C_InvalidScene, some ("value" : Str)), (T.C_InvalidLog, some ("value" : Str)), (T.C_InvalidText, some ("value" : Str)), (T.C_InvalidCommand, some ("value" : Str)), (T.C_Duplicate, some ("name" : Str)), (T.C_UnknownPart, some ("name" : Str)), (T.C_UnknownMode, some ("name" : Str)), (T.C_UnknownEntry, some ("name" : Str)), (T.C_NameTaken, some ("name" : Str)), (T.C_Overlap, some ("name" : Str)), (T.C_NotInside, some ("at" : Str)), (T.C_NotNeighbours, some ("name" : Str)), (T.C_NoProgram, some ("kind" : Str)), (T.C_TooMany, some ("bound" : Str)), (T.C_Ended, some ("number" : Str)), (T.C_Waiting, some ("number" : Str)), (T.C_NothingBad, none), (T.C_NotRight, none), (T.C_NoStore, none), (T.C_NothingToUndo, none), (T.C_NothingToRedo, none)]
theorem ok_law_cell (T : Txt K mg) : FnOk P w K mg base CX0 1 T.f_law_cell T.fd_law_cell ["_law_script", "_law_k"] (sp_law_cell K) := by
  refine T.F_law_cell.ok sc_law_cell (fun vs H Q E h => ?_) (fun cdv A outer s H vs Q E hr h => ?_)
  · obtain ⟨a, ns, k, rfl, _⟩ := h
    rfl
  · obtain ⟨a, ns, k, rfl, hS, hk, kq⟩ := h
    refine ⟨_, (pss_cons (ps_if (pt_cmpR op_lt (pv 1) (pe_callB (id := "len") call_len_seq (by rfl) T.z_len (by decide +kernel) (pa_cons (pv 0) pa_nil)) (nomark _)) (pss_one (ps_ret (pe_ix ix_list (pv 0) (pv 1) (fun _ _ => rfl)))) pss_nil)
        (pss_one (ps_ret (pe_op op_add (pe_op op_mul pe_int (pv 1)) pe_int)))), ?_⟩
    refine ⟨_, rfl, _, rfl, a, _, rfl, .inl hS, _, _, rfl, rfl, _, rfl, ?_⟩
    refine ite2 (fun c => ?_) (fun c => ?_)
    · have c' := of_decide_eq_true c
      rw [List.length_map] at c'
      obtain ⟨j, rfl⟩ := Int.eq_ofNat_of_zero_le hk
      have hj : j < ns.length := by omega
      refine ⟨_, rfl, _, rfl, a, _, _, .int ns[j], rfl, rfl, hS, atI_nat (by rw [List.getElem?_map, List.getElem?_eq_getElem hj]; rfl), kq _⟩
    · refine ⟨_, rfl, _, _, rfl, rfl, .inl ⟨by decide, by decide⟩, _, _, rfl, rfl, kq _⟩
theorem ok_law_box (T : Txt K mg) : FnOk P w K mg base CX0 1 T.f_law_box T.fd_law_box ["_law_cell_here"] sp_law_box := by
  refine T.F_law_box.ok sc_law_box (fun vs H Q E h => ?_) (fun cdv A outer s H vs Q E hr h => ?_)
  · obtain ⟨z, rfl, _⟩ := h
    rfl
  · obtain ⟨z, rfl, k⟩ := h
    refine ⟨_, (pss_one (ps_ret (pe_lst (pa_cons (pe_callB (id := "max") (call_max2 rfl) (by rfl) T.z_max (by decide +kernel) (pa_cons pe_int (pa_cons (pe_op op_sub (pv 0) (pe_op op_pow pe_int pe_int)) pa_nil))) (pa_cons (pe_op op_mod (pv 0) pe_int) (pa_cons pe_int pa_nil)))))), ?_⟩
    refine ⟨_, rfl, _, _, rfl, rfl, ⟨by decide, by decide, by decide⟩, _, _, rfl, rfl, _, _, rfl, ?_⟩
    refine ⟨_, rfl, _, _, rfl, rfl, (by show (0 : Int) < 2147483629; decide), (by show 3 ≤ sizeLine; decide), fun p hp => ?_⟩
    refine k p _ hp ⟨_, _, _, upd_same, ?_, Int.emod_nonneg _ (by decide), Int.emod_lt_of_pos _ (by decide), by decide, by decide⟩
    by_cases c : z - 10 ^ (18 : Int).toNat > 0
    · rw [if_pos c]
      omega
    · rw [if_neg c]
      exact Int.le_refl _
theorem ok_law_take (T : Txt K mg) : FnOk P w K mg base CX0 1 T.f_law_take T.fd_law_take ["_law_box_here", "_law_many"] sp_law_take := by
  refine T.F_law_take.ok sc_law_take (fun vs H Q E h => ?_) (fun cdv A outer s H vs Q E hr h => ?_)
  · obtain ⟨H0, p, n, m, rfl, _⟩ := h
    rfl
  · obtain ⟨H0, p, n, m, rfl, B, hn, hm, hm2, k⟩ := h
    obtain ⟨d, s, c, hp, hd, hs, hs2, hc, hc2⟩ := B.box
    have hL : SqL K H p [.int d, .int s, .int c] := SqL.of hp
    have nx : ∀ (d' c' : Int), 0 ≤ d' → 0 ≤ c' → c' ≤ c + 1 → BoxIn H0 (upd H p (.lst [.int d', .int s, .int c'])) p (n + 1) := fun d' c' h1 h2 h3 =>
      ⟨fun x u e => by rw [upd_ne (ne_of_none e B.free)]; exact B.same _ _ e, B.free, d', s, c', upd_same, h1, hs, hs2, h2, by omega⟩
    refine ⟨_, (pss_cons (ps_if (pt_cmpR op_gt (pe_ix ix_list (pv 0) pe_int (fun _ _ => rfl)) pe_int (nomark _)) (pss_cons (ps_set (i := 2) sc_law_take.nd rfl (Or.inl rfl) (pe_op op_mod (pe_ix ix_list (pv 0) pe_int (fun _ _ => rfl)) (pv 1)))
        (pss_cons (ps_asg (pe_op op_fdiv (pe_ix ix_list (pv 0) pe_int (fun _ _ => rfl)) (pv 1)) (pg_sub (pv 0) pe_int set_list))
        (pss_one (ps_ret (pv 2))))) pss_nil)
        (pss_cons (ps_asg (pe_op op_add (pe_ix ix_list (pv 0) pe_int (fun _ _ => rfl)) pe_int) (pg_sub (pv 0) pe_int set_list))
        (pss_cons (ps_set (i := 3) sc_law_take.nd rfl (Or.inl rfl) (pe_op op_mod (pe_op op_pow (pe_op op_add (pe_op op_add (pe_ix ix_list (pv 0) pe_int (fun _ _ => rfl)) (pe_op op_mul pe_int (pe_ix ix_list (pv 0) pe_int (fun _ _ => rfl)))) pe_int) pe_int) pe_int))
        (pss_cons (ps_set (i := 3) sc_law_take.nd rfl (Or.inl rfl) (pe_op op_mod (pe_op op_pow (pe_op op_add (pv 3) (pe_op op_mul pe_int (pe_ix ix_list (pv 0) pe_int (fun _ _ => rfl)))) pe_int) pe_int))
        (pss_one (ps_ret (pe_op op_mod (pe_op op_fdiv (pv 3) pe_int) (pv 1)))))))), ?_⟩
    refine ⟨_, rfl, p, _, _, _, rfl, rfl, hL, atI_nat (j := 0) rfl, _, _, rfl, rfl, _, rfl, ?_⟩
    refine ite2 (fun c0 => ?_) (fun c0 => ?_)
    · have c0' := of_decide_eq_true c0
      refine ⟨_, rfl, p, _, _, _, rfl, rfl, hL, atI_nat (j := 0) rfl, _, rfl, _, _, rfl, rfl, hm, ?_⟩
      refine ⟨_, rfl, p, _, _, _, rfl, rfl, hL, atI_nat (j := 0) rfl, _, rfl, _, _, rfl, rfl, ⟨hm, by omega⟩, ?_⟩
      refine ⟨_, rfl, p, _, _, 0, rfl, rfl, hp, rfl, ?_⟩
      refine ⟨_, rfl, k _ _ (Int.emod_nonneg _ (by omega)) (Int.emod_lt_of_pos _ hm) (nx _ _ (Int.ediv_nonneg hd (by omega)) hc (by omega))⟩
    · refine ⟨_, rfl, p, _, _, _, rfl, rfl, hL, atI_nat (j := 2) rfl, _, _, rfl, rfl, ?_⟩
      refine ⟨_, rfl, p, _, _, 2, rfl, rfl, hp, rfl, ?_⟩
      have hL' : SqL K (upd H p (.lst [.int d, .int s, .int (c + 1)])) p [.int d, .int s, .int (c + 1)] := SqL.of upd_same
      refine ⟨_, rfl, p, _, _, _, rfl, rfl, hL', atI_nat (j := 1) rfl, _, rfl, p, _, _, _, rfl, rfl, hL', atI_nat (j := 2) rfl, _, _, rfl, rfl, .inl ⟨by decide, by decide⟩, _, _, rfl, rfl, _, _, rfl, rfl, _, _, rfl, rfl, ⟨by decide, by decide, by omega⟩, _, _, rfl, rfl, (by show (0 : Int) < 2147483647; decide), ?_⟩
      have h1 := Int.emod_nonneg ((s + 7919 * (c + 1) + 43) ^ (5 : Int).toNat) (show (2147483647 : Int) ≠ 0 by decide)
      have h2 := Int.emod_lt_of_pos ((s + 7919 * (c + 1) + 43) ^ (5 : Int).toNat) (show (0 : Int) < 2147483647 by decide)
      refine ⟨_, rfl, _, rfl, p, _, _, _, rfl, rfl, hL', atI_nat (j := 2) rfl, _, _, rfl, rfl, .inl ⟨by decide, by decide⟩, _, _, rfl, rfl, _, _, rfl, rfl, ⟨by decide, by decide, by omega⟩, _, _, rfl, rfl, (by show (0 : Int) < 2147483587; decide), ?_⟩
      refine ⟨_, rfl, _, _, rfl, rfl, ⟨by decide, by decide⟩, _, rfl, _, _, rfl, rfl, hm, ?_⟩
      exact k _ _ (Int.emod_nonneg _ (by omega)) (Int.emod_lt_of_pos _ hm) (nx _ _ hd (by omega) (by omega))
theorem ok_InvalidName_init (T : Txt K mg) : FnOk P w K mg base CX0 1 T.f_InvalidName_init T.fd_InvalidName_init ["self", "value"] (sp_xinit K T.C_InvalidName "value") := by
  refine T.F_InvalidName_init.ok sc_InvalidName_init (fun vs H Q E h => ?_) (fun cdv A outer s H vs Q E hr h => ?_)
  · obtain ⟨a, v, rfl, _⟩ := h
    rfl
  · obtain ⟨a, v, rfl, x, n, ha, k⟩ := h
    refine ⟨_, (pss_one (ps_ost (pv 0) (pv 1))), ?_⟩
    exact ⟨_, rfl, _, rfl, a, T.C_InvalidName, rfl, x, n, .inl ⟨ha, k⟩⟩
theorem ok_InvalidKey_init (T : Txt K mg) : FnOk P w K mg base CX0 1 T.f_InvalidKey_init T.fd_InvalidKey_init ["self", "value"] (sp_xinit K T.C_InvalidKey "value") := by
  refine T.F_InvalidKey_init.ok sc_InvalidKey_init (fun vs H Q E h => ?_) (fun cdv A outer s H vs Q E hr h => ?_)
  · obtain ⟨a, v, rfl, _⟩ := h
    rfl
  · obtain ⟨a, v, rfl, x, n, ha, k⟩ := h
    refine ⟨_, (pss_one (ps_ost (pv 0) (pv 1))), ?_⟩
    exact ⟨_, rfl, _, rfl, a, T.C_InvalidKey, rfl, x, n, .inl ⟨ha, k⟩⟩
theorem ok_InvalidSpan_init (T : Txt K mg) : FnOk P w K mg base CX0 1 T.f_InvalidSpan_init T.fd_InvalidSpan_init ["self", "value"] (sp_xinit K T.C_InvalidSpan "value") := by
  refine T.F_InvalidSpan_init.ok sc_InvalidSpan_init (fun vs H Q E h => ?_) (fun cdv A outer s H vs Q E hr h => ?_)
  · obtain ⟨a, v, rfl, _⟩ := h
    rfl
  · obtain ⟨a, v, rfl, x, n, ha, k⟩ := h
    refine ⟨_, (pss_one (ps_ost (pv 0) (pv 1))), ?_⟩
    exact ⟨_, rfl, _, rfl, a, T.C_InvalidSpan, rfl, x, n, .inl ⟨ha, k⟩⟩
theorem ok_InvalidSpans_init (T : Txt K mg) : FnOk P w K mg base CX0 1 T.f_InvalidSpans_init T.fd_InvalidSpans_init ["self", "value"] (sp_xinit K T.C_InvalidSpans "value") := by
  refine T.F_InvalidSpans_init.ok sc_InvalidSpans_init (fun vs H Q E h => ?_) (fun cdv A outer s H vs Q E hr h => ?_)
  · obtain ⟨a, v, rfl, _⟩ := h
    rfl
  · obtain ⟨a, v, rfl, x, n, ha, k⟩ := h
    refine ⟨_, (pss_one (ps_ost (pv 0) (pv 1))), ?_⟩
    exact ⟨_, rfl, _, rfl, a, T.C_InvalidSpans, rfl, x, n, .inl ⟨ha, k⟩⟩
theorem ok_InvalidCatalog_init (T : Txt K mg) : FnOk P w K mg base CX0 1 T.f_InvalidCatalog_init T.fd_InvalidCatalog_init ["self", "value"] (sp_xinit K T.C_InvalidCatalog "value") := by
  refine T.F_InvalidCatalog_init.ok sc_InvalidCatalog_init (fun vs H Q E h => ?_) (fun cdv A outer s H vs Q E hr h => ?_)
  · obtain ⟨a, v, rfl, _⟩ := h
    rfl
  · obtain ⟨a, v, rfl, x, n, ha, k⟩ := h
    refine ⟨_, (pss_one (ps_ost (pv 0) (pv 1))), ?_⟩
    exact ⟨_, rfl, _, rfl, a, T.C_InvalidCatalog, rfl, x, n, .inl ⟨ha, k⟩⟩
theorem ok_InvalidChange_init (T : Txt K mg) : FnOk P w K mg base CX0 1 T.f_InvalidChange_init T.fd_InvalidChange_init ["self", "value"] (sp_xinit K T.C_InvalidChange "value") := by
  refine T.F_InvalidChange_init.ok sc_InvalidChange_init (fun vs H Q E h => ?_) (fun cdv A outer s H vs Q E hr h => ?_)
  · obtain ⟨a, v, rfl, _⟩ := h
    rfl
  · obtain ⟨a, v, rfl, x, n, ha, k⟩ := h
    refine ⟨_, (pss_one (ps_ost (pv 0) (pv 1))), ?_⟩
    exact ⟨_, rfl, _, rfl, a, T.C_InvalidChange, rfl, x, n, .inl ⟨ha, k⟩⟩
theorem ok_InvalidModes_init (T : Txt K mg) : FnOk P w K mg base CX0 1 T.f_InvalidModes_init T.fd_InvalidModes_init ["self", "value"] (sp_xinit K T.C_InvalidModes "value") := by
  refine T.F_InvalidModes_init.ok sc_InvalidModes_init (fun vs H Q E h => ?_) (fun cdv A outer s H vs Q E hr h => ?_)
  · obtain ⟨a, v, rfl, _⟩ := h
    rfl
  · obtain ⟨a, v, rfl, x, n, ha, k⟩ := h
    refine ⟨_, (pss_one (ps_ost (pv 0) (pv 1))), ?_⟩
    exact ⟨_, rfl, _, rfl, a, T.C_InvalidModes, rfl, x, n, .inl ⟨ha, k⟩⟩
theorem ok_InvalidClash_init (T : Txt K mg) : FnOk P w K mg base CX0 1 T.f_InvalidClash_init T.fd_InvalidClash_init ["self", "value"] (sp_xinit K T.C_InvalidClash "value") := by
  refine T.F_InvalidClash_init.ok sc_InvalidClash_init (fun vs H Q E h => ?_) (fun cdv A outer s H vs Q E hr h => ?_)
  · obtain ⟨a, v, rfl, _⟩ := h
    rfl
  · obtain ⟨a, v, rfl, x, n, ha, k⟩ := h
    refine ⟨_, (pss_one (ps_ost (pv 0) (pv 1))), ?_⟩
    exact ⟨_, rfl, _, rfl, a, T.C_InvalidClash, rfl, x, n, .inl ⟨ha, k⟩⟩
theorem ok_InvalidStrengths_init (T : Txt K mg) : FnOk P w K mg base CX0 1 T.f_InvalidStrengths_init T.fd_InvalidStrengths_init ["self", "value"] (sp_xinit K T.C_InvalidStrengths "value") := by
  refine T.F_InvalidStrengths_init.ok sc_InvalidStrengths_init (fun vs H Q E h => ?_) (fun cdv A outer s H vs Q E hr h => ?_)
  · obtain ⟨a, v, rfl, _⟩ := h
    rfl
  · obtain ⟨a, v, rfl, x, n, ha, k⟩ := h
    refine ⟨_, (pss_one (ps_ost (pv 0) (pv 1))), ?_⟩
    exact ⟨_, rfl, _, rfl, a, T.C_InvalidStrengths, rfl, x, n, .inl ⟨ha, k⟩⟩
theorem ok_InvalidProgram_init (T : Txt K mg) : FnOk P w K mg base CX0 1 T.f_InvalidProgram_init T.fd_InvalidProgram_init ["self", "value"] (sp_xinit K T.C_InvalidProgram "value") := by
  refine T.F_InvalidProgram_init.ok sc_InvalidProgram_init (fun vs H Q E h => ?_) (fun cdv A outer s H vs Q E hr h => ?_)
  · obtain ⟨a, v, rfl, _⟩ := h
    rfl
  · obtain ⟨a, v, rfl, x, n, ha, k⟩ := h
    refine ⟨_, (pss_one (ps_ost (pv 0) (pv 1))), ?_⟩
    exact ⟨_, rfl, _, rfl, a, T.C_InvalidProgram, rfl, x, n, .inl ⟨ha, k⟩⟩
theorem ok_InvalidPrograms_init (T : Txt K mg) : FnOk P w K mg base CX0 1 T.f_InvalidPrograms_init T.fd_InvalidPrograms_init ["self", "value"] (sp_xinit K T.C_InvalidPrograms "value") := by
  refine T.F_InvalidPrograms_init.ok sc_InvalidPrograms_init (fun vs H Q E h => ?_) (fun cdv A outer s H vs Q E hr h => ?_)
  · obtain ⟨a, v, rfl, _⟩ := h
    rfl
  · obtain ⟨a, v, rfl, x, n, ha, k⟩ := h
    refine ⟨_, (pss_one (ps_ost (pv 0) (pv 1))), ?_⟩
    exact ⟨_, rfl, _, rfl, a, T.C_InvalidPrograms, rfl, x, n, .inl ⟨ha, k⟩⟩
theorem ok_InvalidProtocol_init (T : Txt K mg) : FnOk P w K mg base CX0 1 T.f_InvalidProtocol_init T.fd_InvalidProtocol_init ["self", "value"] (sp_xinit K T.C_InvalidProtocol "value") := by
  refine T.F_InvalidProtocol_init.ok sc_InvalidProtocol_init (fun vs H Q E h => ?_) (fun cdv A outer s H vs Q E hr h => ?_)
  · obtain ⟨a, v, rfl, _⟩ := h
    rfl
  · obtain ⟨a, v, rfl, x, n, ha, k⟩ := h
    refine ⟨_, (pss_one (ps_ost (pv 0) (pv 1))), ?_⟩
    exact ⟨_, rfl, _, rfl, a, T.C_InvalidProtocol, rfl, x, n, .inl ⟨ha, k⟩⟩
theorem ok_InvalidRows_init (T : Txt K mg) : FnOk P w K mg base CX0 1 T.f_InvalidRows_init T.fd_InvalidRows_init ["self", "value"] (sp_xinit K T.C_InvalidRows "value") := by
  refine T.F_InvalidRows_init.ok sc_InvalidRows_init (fun vs H Q E h => ?_) (fun cdv A outer s H vs Q E hr h => ?_)
  · obtain ⟨a, v, rfl, _⟩ := h
    rfl
  · obtain ⟨a, v, rfl, x, n, ha, k⟩ := h
    refine ⟨_, (pss_one (ps_ost (pv 0) (pv 1))), ?_⟩
    exact ⟨_, rfl, _, rfl, a, T.C_InvalidRows, rfl, x, n, .inl ⟨ha, k⟩⟩
theorem ok_InvalidSession_init (T : Txt K mg) : FnOk P w K mg base CX0 1 T.f_InvalidSession_init T.fd_InvalidSession_init ["self", "value"] (sp_xinit K T.C_InvalidSession "value") := by
  refine T.F_InvalidSession_init.ok sc_InvalidSession_init (fun vs H Q E h => ?_) (fun cdv A outer s H vs Q E hr h => ?_)
  · obtain ⟨a, v, rfl, _⟩ := h
    rfl
  · obtain ⟨a, v, rfl, x, n, ha, k⟩ := h
    refine ⟨_, (pss_one (ps_ost (pv 0) (pv 1))), ?_⟩
    exact ⟨_, rfl, _, rfl, a, T.C_InvalidSession, rfl, x, n, .inl ⟨ha, k⟩⟩
theorem ok_InvalidNumber_init (T : Txt K mg) : FnOk P w K mg base CX0 1 T.f_InvalidNumber_init T.fd_InvalidNumber_init ["self", "value"] (sp_xinit K T.C_InvalidNumber "value") := by
  refine T.F_InvalidNumber_init.ok sc_InvalidNumber_init (fun vs H Q E h => ?_) (fun cdv A outer s H vs Q E hr h => ?_)
  · obtain ⟨a, v, rfl, _⟩ := h
    rfl
  · obtain ⟨a, v, rfl, x, n, ha, k⟩ := h
    refine ⟨_, (pss_one (ps_ost (pv 0) (pv 1))), ?_⟩
    exact ⟨_, rfl, _, rfl, a, T.C_InvalidNumber, rfl, x, n, .inl ⟨ha, k⟩⟩
theorem ok_InvalidWeaving_init (T : Txt K mg) : FnOk P w K mg base CX0 1 T.f_InvalidWeaving_init T.fd_InvalidWeaving_init ["self", "value"] (sp_xinit K T.C_InvalidWeaving "value") := by
  refine T.F_InvalidWeaving_init.ok sc_InvalidWeaving_init (fun vs H Q E h => ?_) (fun cdv A outer s H vs Q E hr h => ?_)
  · obtain ⟨a, v, rfl, _⟩ := h
    rfl
  · obtain ⟨a, v, rfl, x, n, ha, k⟩ := h
    refine ⟨_, (pss_one (ps_ost (pv 0) (pv 1))), ?_⟩
    exact ⟨_, rfl, _, rfl, a, T.C_InvalidWeaving, rfl, x, n, .inl ⟨ha, k⟩⟩
theorem ok_InvalidStore_init (T : Txt K mg) : FnOk P w K mg base CX0 1 T.f_InvalidStore_init T.fd_InvalidStore_init ["self", "value"] (sp_xinit K T.C_InvalidStore "value") := by
  refine T.F_InvalidStore_init.ok sc_InvalidStore_init (fun vs H Q E h => ?_) (fun cdv A outer s H vs Q E hr h => ?_)
  · obtain ⟨a, v, rfl, _⟩ := h
    rfl
  · obtain ⟨a, v, rfl, x, n, ha, k⟩ := h
    refine ⟨_, (pss_one (ps_ost (pv 0) (pv 1))), ?_⟩
    exact ⟨_, rfl, _, rfl, a, T.C_InvalidStore, rfl, x, n, .inl ⟨ha, k⟩⟩
theorem ok_InvalidScene_init (T : Txt K mg) : FnOk P w K mg base CX0 1 T.f_InvalidScene_init T.fd_InvalidScene_init ["self", "value"] (sp_xinit K T.C_InvalidScene "value") := by
  refine T.F_InvalidScene_init.ok sc_InvalidScene_init (fun vs H Q E h => ?_) (fun cdv A outer s H vs Q E hr h => ?_)
  · obtain ⟨a, v, rfl, _⟩ := h
    rfl
  · obtain ⟨a, v, rfl, x, n, ha, k⟩ := h
    refine ⟨_, (pss_one (ps_ost (pv 0) (pv 1))), ?_⟩
    exact ⟨_, rfl, _, rfl, a, T.C_InvalidScene, rfl, x, n, .inl ⟨ha, k⟩⟩
theorem ok_InvalidLog_init (T : Txt K mg) : FnOk P w K mg base CX0 1 T.f_InvalidLog_init T.fd_InvalidLog_init ["self", "value"] (sp_xinit K T.C_InvalidLog "value") := by
  refine T.F_InvalidLog_init.ok sc_InvalidLog_init (fun vs H Q E h => ?_) (fun cdv A outer s H vs Q E hr h => ?_)
  · obtain ⟨a, v, rfl, _⟩ := h
    rfl
  · obtain ⟨a, v, rfl, x, n, ha, k⟩ := h
    refine ⟨_, (pss_one (ps_ost (pv 0) (pv 1))), ?_⟩
    exact ⟨_, rfl, _, rfl, a, T.C_InvalidLog, rfl, x, n, .inl ⟨ha, k⟩⟩
theorem ok_InvalidText_init (T : Txt K mg) : FnOk P w K mg base CX0 1 T.f_InvalidText_init T.fd_InvalidText_init ["self", "value"] (sp_xinit K T.C_InvalidText "value") := by
  refine T.F_InvalidText_init.ok sc_InvalidText_init (fun vs H Q E h => ?_) (fun cdv A outer s H vs Q E hr h => ?_)
  · obtain ⟨a, v, rfl, _⟩ := h
    rfl
  · obtain ⟨a, v, rfl, x, n, ha, k⟩ := h
    refine ⟨_, (pss_one (ps_ost (pv 0) (pv 1))), ?_⟩
    exact ⟨_, rfl, _, rfl, a, T.C_InvalidText, rfl, x, n, .inl ⟨ha, k⟩⟩
theorem ok_InvalidCommand_init (T : Txt K mg) : FnOk P w K mg base CX0 1 T.f_InvalidCommand_init T.fd_InvalidCommand_init ["self", "value"] (sp_xinit K T.C_InvalidCommand "value") := by
  refine T.F_InvalidCommand_init.ok sc_InvalidCommand_init (fun vs H Q E h => ?_) (fun cdv A outer s H vs Q E hr h => ?_)
  · obtain ⟨a, v, rfl, _⟩ := h
    rfl
  · obtain ⟨a, v, rfl, x, n, ha, k⟩ := h
    refine ⟨_, (pss_one (ps_ost (pv 0) (pv 1))), ?_⟩
    exact ⟨_, rfl, _, rfl, a, T.C_InvalidCommand, rfl, x, n, .inl ⟨ha, k⟩⟩
theorem ok_Duplicate_init (T : Txt K mg) : FnOk P w K mg base CX0 1 T.f_Duplicate_init T.fd_Duplicate_init ["self", "name"] (sp_xinit K T.C_Duplicate "name") := by
  refine T.F_Duplicate_init.ok sc_Duplicate_init (fun vs H Q E h => ?_) (fun cdv A outer s H vs Q E hr h => ?_)
  · obtain ⟨a, v, rfl, _⟩ := h
    rfl
  · obtain ⟨a, v, rfl, x, n, ha, k⟩ := h
    refine ⟨_, (pss_one (ps_ost (pv 0) (pv 1))), ?_⟩
    exact ⟨_, rfl, _, rfl, a, T.C_Duplicate, rfl, x, n, .inl ⟨ha, k⟩⟩
theorem ok_UnknownPart_init (T : Txt K mg) : FnOk P w K mg base CX0 1 T.f_UnknownPart_init T.fd_UnknownPart_init ["self", "name"] (sp_xinit K T.C_UnknownPart "name") := by
  refine T.F_UnknownPart_init.ok sc_UnknownPart_init (fun vs H Q E h => ?_) (fun cdv A outer s H vs Q E hr h => ?_)
  · obtain ⟨a, v, rfl, _⟩ := h
    rfl
  · obtain ⟨a, v, rfl, x, n, ha, k⟩ := h
    refine ⟨_, (pss_one (ps_ost (pv 0) (pv 1))), ?_⟩
    exact ⟨_, rfl, _, rfl, a, T.C_UnknownPart, rfl, x, n, .inl ⟨ha, k⟩⟩
theorem ok_UnknownMode_init (T : Txt K mg) : FnOk P w K mg base CX0 1 T.f_UnknownMode_init T.fd_UnknownMode_init ["self", "name"] (sp_xinit K T.C_UnknownMode "name") := by
  refine T.F_UnknownMode_init.ok sc_UnknownMode_init (fun vs H Q E h => ?_) (fun cdv A outer s H vs Q E hr h => ?_)
  · obtain ⟨a, v, rfl, _⟩ := h
    rfl
  · obtain ⟨a, v, rfl, x, n, ha, k⟩ := h
    refine ⟨_, (pss_one (ps_ost (pv 0) (pv 1))), ?_⟩
    exact ⟨_, rfl, _, rfl, a, T.C_UnknownMode, rfl, x, n, .inl ⟨ha, k⟩⟩
theorem ok_UnknownEntry_init (T : Txt K mg) : FnOk P w K mg base CX0 1 T.f_UnknownEntry_init T.fd_UnknownEntry_init ["self", "name"] (sp_xinit K T.C_UnknownEntry "name") := by
  refine T.F_UnknownEntry_init.ok sc_UnknownEntry_init (fun vs H Q E h => ?_) (fun cdv A outer s H vs Q E hr h => ?_)
  · obtain ⟨a, v, rfl, _⟩ := h
    rfl
  · obtain ⟨a, v, rfl, x, n, ha, k⟩ := h
    refine ⟨_, (pss_one (ps_ost (pv 0) (pv 1))), ?_⟩
    exact ⟨_, rfl, _, rfl, a, T.C_UnknownEntry, rfl, x, n, .inl ⟨ha, k⟩⟩
theorem ok_NameTaken_init (T : Txt K mg) : FnOk P w K mg base CX0 1 T.f_NameTaken_init T.fd_NameTaken_init ["self", "name"] (sp_xinit K T.C_NameTaken "name") := by
  refine T.F_NameTaken_init.ok sc_NameTaken_init (fun vs H Q E h => ?_) (fun cdv A outer s H vs Q E hr h => ?_)
  · obtain ⟨a, v, rfl, _⟩ := h
    rfl
  · obtain ⟨a, v, rfl, x, n, ha, k⟩ := h
    refine ⟨_, (pss_one (ps_ost (pv 0) (pv 1))), ?_⟩
    exact ⟨_, rfl, _, rfl, a, T.C_NameTaken, rfl, x, n, .inl ⟨ha, k⟩⟩
theorem ok_Overlap_init (T : Txt K mg) : FnOk P w K mg base CX0 1 T.f_Overlap_init T.fd_Overlap_init ["self", "name"] (sp_xinit K T.C_Overlap "name") := by
  refine T.F_Overlap_init.ok sc_Overlap_init (fun vs H Q E h => ?_) (fun cdv A outer s H vs Q E hr h => ?_)
  · obtain ⟨a, v, rfl, _⟩ := h
    rfl
  · obtain ⟨a, v, rfl, x, n, ha, k⟩ := h
    refine ⟨_, (pss_one (ps_ost (pv 0) (pv 1))), ?_⟩
    exact ⟨_, rfl, _, rfl, a, T.C_Overlap, rfl, x, n, .inl ⟨ha, k⟩⟩
theorem ok_NotInside_init (T : Txt K mg) : FnOk P w K mg base CX0 1 T.f_NotInside_init T.fd_NotInside_init ["self", "at"] (sp_xinit K T.C_NotInside "at") := by
  refine T.F_NotInside_init.ok sc_NotInside_init (fun vs H Q E h => ?_) (fun cdv A outer s H vs Q E hr h => ?_)
  · obtain ⟨a, v, rfl, _⟩ := h
    rfl
  · obtain ⟨a, v, rfl, x, n, ha, k⟩ := h
    refine ⟨_, (pss_one (ps_ost (pv 0) (pv 1))), ?_⟩
    exact ⟨_, rfl, _, rfl, a, T.C_NotInside, rfl, x, n, .inl ⟨ha, k⟩⟩
theorem ok_NotNeighbours_init (T : Txt K mg) : FnOk P w K mg base CX0 1 T.f_NotNeighbours_init T.fd_NotNeighbours_init ["self", "name"] (sp_xinit K T.C_NotNeighbours "name") := by
  refine T.F_NotNeighbours_init.ok sc_NotNeighbours_init (fun vs H Q E h => ?_) (fun cdv A outer s H vs Q E hr h => ?_)
  · obtain ⟨a, v, rfl, _⟩ := h
    rfl
  · obtain ⟨a, v, rfl, x, n, ha, k⟩ := h
    refine ⟨_, (pss_one (ps_ost (pv 0) (pv 1))), ?_⟩
    exact ⟨_, rfl, _, rfl, a, T.C_NotNeighbours, rfl, x, n, .inl ⟨ha, k⟩⟩
theorem ok_NoProgram_init (T : Txt K mg) : FnOk P w K mg base CX0 1 T.f_NoProgram_init T.fd_NoProgram_init ["self", "kind"] (sp_xinit K T.C_NoProgram "kind") := by
  refine T.F_NoProgram_init.ok sc_NoProgram_init (fun vs H Q E h => ?_) (fun cdv A outer s H vs Q E hr h => ?_)
  · obtain ⟨a, v, rfl, _⟩ := h
    rfl
  · obtain ⟨a, v, rfl, x, n, ha, k⟩ := h
    refine ⟨_, (pss_one (ps_ost (pv 0) (pv 1))), ?_⟩
    exact ⟨_, rfl, _, rfl, a, T.C_NoProgram, rfl, x, n, .inl ⟨ha, k⟩⟩
theorem ok_TooMany_init (T : Txt K mg) : FnOk P w K mg base CX0 1 T.f_TooMany_init T.fd_TooMany_init ["self", "bound"] (sp_xinit K T.C_TooMany "bound") := by
  refine T.F_TooMany_init.ok sc_TooMany_init (fun vs H Q E h => ?_) (fun cdv A outer s H vs Q E hr h => ?_)
  · obtain ⟨a, v, rfl, _⟩ := h
    rfl
  · obtain ⟨a, v, rfl, x, n, ha, k⟩ := h
    refine ⟨_, (pss_one (ps_ost (pv 0) (pv 1))), ?_⟩
    exact ⟨_, rfl, _, rfl, a, T.C_TooMany, rfl, x, n, .inl ⟨ha, k⟩⟩
theorem ok_Ended_init (T : Txt K mg) : FnOk P w K mg base CX0 1 T.f_Ended_init T.fd_Ended_init ["self", "number"] (sp_xinit K T.C_Ended "number") := by
  refine T.F_Ended_init.ok sc_Ended_init (fun vs H Q E h => ?_) (fun cdv A outer s H vs Q E hr h => ?_)
  · obtain ⟨a, v, rfl, _⟩ := h
    rfl
  · obtain ⟨a, v, rfl, x, n, ha, k⟩ := h
    refine ⟨_, (pss_one (ps_ost (pv 0) (pv 1))), ?_⟩
    exact ⟨_, rfl, _, rfl, a, T.C_Ended, rfl, x, n, .inl ⟨ha, k⟩⟩
theorem ok_Waiting_init (T : Txt K mg) : FnOk P w K mg base CX0 1 T.f_Waiting_init T.fd_Waiting_init ["self", "number"] (sp_xinit K T.C_Waiting "number") := by
  refine T.F_Waiting_init.ok sc_Waiting_init (fun vs H Q E h => ?_) (fun cdv A outer s H vs Q E hr h => ?_)
  · obtain ⟨a, v, rfl, _⟩ := h
    rfl
  · obtain ⟨a, v, rfl, x, n, ha, k⟩ := h
    refine ⟨_, (pss_one (ps_ost (pv 0) (pv 1))), ?_⟩
    exact ⟨_, rfl, _, rfl, a, T.C_Waiting, rfl, x, n, .inl ⟨ha, k⟩⟩
theorem ok_law_classes (T : Txt K mg) : FnOk P w K mg base CX0 1 T.f_law_classes T.fd_law_classes ["_law_error"] (sp_classes K (Cs T)) := by
  refine T.F_law_classes.ok sc_law_classes (fun vs H Q E h => ?_) (fun cdv A outer s H vs Q E hr h => ?_)
  · obtain ⟨a, C, bits, rfl, _⟩ := h
    rfl
  · obtain ⟨a, C, bits, rfl, ea, KE, kit, k⟩ := h
    have k0 : PySem.W.kitOne K (.ref C) (.ref T.C_InvalidName) = some (bits 0) := kit 0 _ rfl
    have k1 : PySem.W.kitOne K (.ref C) (.ref T.C_InvalidKey) = some (bits 1) := kit 1 _ rfl
    have k2 : PySem.W.kitOne K (.ref C) (.ref T.C_InvalidSpan) = some (bits 2) := kit 2 _ rfl
    have k3 : PySem.W.kitOne K (.ref C) (.ref T.C_InvalidSpans) = some (bits 3) := kit 3 _ rfl
    have k4 : PySem.W.kitOne K (.ref C) (.ref T.C_InvalidCatalog) = some (bits 4) := kit 4 _ rfl
    have k5 : PySem.W.kitOne K (.ref C) (.ref T.C_InvalidChange) = some (bits 5) := kit 5 _ rfl
    have k6 : PySem.W.kitOne K (.ref C) (.ref T.C_InvalidModes) = some (bits 6) := kit 6 _ rfl
    have k7 : PySem.W.kitOne K (.ref C) (.ref T.C_InvalidClash) = some (bits 7) := kit 7 _ rfl
    have k8 : PySem.W.kitOne K (.ref C) (.ref T.C_InvalidStrengths) = some (bits 8) := kit 8 _ rfl
    have k9 : PySem.W.kitOne K (.ref C) (.ref T.C_InvalidProgram) = some (bits 9) := kit 9 _ rfl
    have k10 : PySem.W.kitOne K (.ref C) (.ref T.C_InvalidPrograms) = some (bits 10) := kit 10 _ rfl
    have k11 : PySem.W.kitOne K (.ref C) (.ref T.C_InvalidProtocol) = some (bits 11) := kit 11 _ rfl
    have k12 : PySem.W.kitOne K (.ref C) (.ref T.C_InvalidRows) = some (bits 12) := kit 12 _ rfl
    have k13 : PySem.W.kitOne K (.ref C) (.ref T.C_InvalidSession) = some (bits 13) := kit 13 _ rfl
    have k14 : PySem.W.kitOne K (.ref C) (.ref T.C_InvalidNumber) = some (bits 14) := kit 14 _ rfl
    have k15 : PySem.W.kitOne K (.ref C) (.ref T.C_InvalidWeaving) = some (bits 15) := kit 15 _ rfl
    have k16 : PySem.W.kitOne K (.ref C) (.ref T.C_InvalidStore) = some (bits 16) := kit 16 _ rfl
    have k17 : PySem.W.kitOne K (.ref C) (.ref T.C_InvalidScene) = some (bits 17) := kit 17 _ rfl
    have k18 : PySem.W.kitOne K (.ref C) (.ref T.C_InvalidLog) = some (bits 18) := kit 18 _ rfl
    have k19 : PySem.W.kitOne K (.ref C) (.ref T.C_InvalidText) = some (bits 19) := kit 19 _ rfl
    have k20 : PySem.W.kitOne K (.ref C) (.ref T.C_InvalidCommand) = some (bits 20) := kit 20 _ rfl
    have k21 : PySem.W.kitOne K (.ref C) (.ref T.C_Duplicate) = some (bits 21) := kit 21 _ rfl
    have k22 : PySem.W.kitOne K (.ref C) (.ref T.C_UnknownPart) = some (bits 22) := kit 22 _ rfl
    have k23 : PySem.W.kitOne K (.ref C) (.ref T.C_UnknownMode) = some (bits 23) := kit 23 _ rfl
    have k24 : PySem.W.kitOne K (.ref C) (.ref T.C_UnknownEntry) = some (bits 24) := kit 24 _ rfl
    have k25 : PySem.W.kitOne K (.ref C) (.ref T.C_NameTaken) = some (bits 25) := kit 25 _ rfl
    have k26 : PySem.W.kitOne K (.ref C) (.ref T.C_Overlap) = some (bits 26) := kit 26 _ rfl
    have k27 : PySem.W.kitOne K (.ref C) (.ref T.C_NotInside) = some (bits 27) := kit 27 _ rfl
    have k28 : PySem.W.kitOne K (.ref C) (.ref T.C_NotNeighbours) = some (bits 28) := kit 28 _ rfl
    have k29 : PySem.W.kitOne K (.ref C) (.ref T.C_NoProgram) = some (bits 29) := kit 29 _ rfl
    have k30 : PySem.W.kitOne K (.ref C) (.ref T.C_TooMany) = some (bits 30) := kit 30 _ rfl
    have k31 : PySem.W.kitOne K (.ref C) (.ref T.C_Ended) = some (bits 31) := kit 31 _ rfl
    have k32 : PySem.W.kitOne K (.ref C) (.ref T.C_Waiting) = some (bits 32) := kit 32 _ rfl
    have k33 : PySem.W.kitOne K (.ref C) (.ref T.C_NothingBad) = some (bits 33) := kit 33 _ rfl
    have k34 : PySem.W.kitOne K (.ref C) (.ref T.C_NotRight) = some (bits 34) := kit 34 _ rfl
    have k35 : PySem.W.kitOne K (.ref C) (.ref T.C_NoStore) = some (bits 35) := kit 35 _ rfl
    have k36 : PySem.W.kitOne K (.ref C) (.ref T.C_NothingToUndo) = some (bits 36) := kit 36 _ rfl
    have k37 : PySem.W.kitOne K (.ref C) (.ref T.C_NothingToRedo) = some (bits 37) := kit 37 _ rfl
    clear kit
    refine ⟨_, (pss_cons (ps_set (i := 1) sc_law_classes.nd rfl (Or.inr rfl) (pe_lst pa_nil))
        (C8.pss_cut (ps_set (i := 1) sc_law_classes.nd rfl (Or.inr rfl) (pe_op op_cat (pv 1) (pe_lst (pa_cons (pe_callB (id := "isinstance") (r := rIsE K) call_isE (by rfl) T.z_isinstance (by decide +kernel) (pa_cons (pv 0) (pa_cons (pe_glob (v := .ref T.C_InvalidName) rfl T.g_InvalidName rfl) pa_nil))) (pa_cons (pe_callB (id := "isinstance") (r := rIsE K) call_isE (by rfl) T.z_isinstance (by decide +kernel) (pa_cons (pv 0) (pa_cons (pe_glob (v := .ref T.C_InvalidKey) rfl T.g_InvalidKey rfl) pa_nil))) pa_nil)))))
        (C8.pss_cut (ps_set (i := 1) sc_law_classes.nd rfl (Or.inr rfl) (pe_op op_cat (pv 1) (pe_lst (pa_cons (pe_callB (id := "isinstance") (r := rIsE K) call_isE (by rfl) T.z_isinstance (by decide +kernel) (pa_cons (pv 0) (pa_cons (pe_glob (v := .ref T.C_InvalidSpan) rfl T.g_InvalidSpan rfl) pa_nil))) (pa_cons (pe_callB (id := "isinstance") (r := rIsE K) call_isE (by rfl) T.z_isinstance (by decide +kernel) (pa_cons (pv 0) (pa_cons (pe_glob (v := .ref T.C_InvalidSpans) rfl T.g_InvalidSpans rfl) pa_nil))) pa_nil)))))
        (C8.pss_cut (ps_set (i := 1) sc_law_classes.nd rfl (Or.inr rfl) (pe_op op_cat (pv 1) (pe_lst (pa_cons (pe_callB (id := "isinstance") (r := rIsE K) call_isE (by rfl) T.z_isinstance (by decide +kernel) (pa_cons (pv 0) (pa_cons (pe_glob (v := .ref T.C_InvalidCatalog) rfl T.g_InvalidCatalog rfl) pa_nil))) (pa_cons (pe_callB (id := "isinstance") (r := rIsE K) call_isE (by rfl) T.z_isinstance (by decide +kernel) (pa_cons (pv 0) (pa_cons (pe_glob (v := .ref T.C_InvalidChange) rfl T.g_InvalidChange rfl) pa_nil))) pa_nil)))))
        (C8.pss_cut (ps_set (i := 1) sc_law_classes.nd rfl (Or.inr rfl) (pe_op op_cat (pv 1) (pe_lst (pa_cons (pe_callB (id := "isinstance") (r := rIsE K) call_isE (by rfl) T.z_isinstance (by decide +kernel) (pa_cons (pv 0) (pa_cons (pe_glob (v := .ref T.C_InvalidModes) rfl T.g_InvalidModes rfl) pa_nil))) (pa_cons (pe_callB (id := "isinstance") (r := rIsE K) call_isE (by rfl) T.z_isinstance (by decide +kernel) (pa_cons (pv 0) (pa_cons (pe_glob (v := .ref T.C_InvalidClash) rfl T.g_InvalidClash rfl) pa_nil))) pa_nil)))))
        (C8.pss_cut (ps_set (i := 1) sc_law_classes.nd rfl (Or.inr rfl) (pe_op op_cat (pv 1) (pe_lst (pa_cons (pe_callB (id := "isinstance") (r := rIsE K) call_isE (by rfl) T.z_isinstance (by decide +kernel) (pa_cons (pv 0) (pa_cons (pe_glob (v := .ref T.C_InvalidStrengths) rfl T.g_InvalidStrengths rfl) pa_nil))) (pa_cons (pe_callB (id := "isinstance") (r := rIsE K) call_isE (by rfl) T.z_isinstance (by decide +kernel) (pa_cons (pv 0) (pa_cons (pe_glob (v := .ref T.C_InvalidProgram) rfl T.g_InvalidProgram rfl) pa_nil))) pa_nil)))))
        (C8.pss_cut (ps_set (i := 1) sc_law_classes.nd rfl (Or.inr rfl) (pe_op op_cat (pv 1) (pe_lst (pa_cons (pe_callB (id := "isinstance") (r := rIsE K) call_isE (by rfl) T.z_isinstance (by decide +kernel) (pa_cons (pv 0) (pa_cons (pe_glob (v := .ref T.C_InvalidPrograms) rfl T.g_InvalidPrograms rfl) pa_nil))) (pa_cons (pe_callB (id := "isinstance") (r := rIsE K) call_isE (by rfl) T.z_isinstance (by decide +kernel) (pa_cons (pv 0) (pa_cons (pe_glob (v := .ref T.C_InvalidProtocol) rfl T.g_InvalidProtocol rfl) pa_nil))) pa_nil)))))
        (C8.pss_cut (ps_set (i := 1) sc_law_classes.nd rfl (Or.inr rfl) (pe_op op_cat (pv 1) (pe_lst (pa_cons (pe_callB (id := "isinstance") (r := rIsE K) call_isE (by rfl) T.z_isinstance (by decide +kernel) (pa_cons (pv 0) (pa_cons (pe_glob (v := .ref T.C_InvalidRows) rfl T.g_InvalidRows rfl) pa_nil))) (pa_cons (pe_callB (id := "isinstance") (r := rIsE K) call_isE (by rfl) T.z_isinstance (by decide +kernel) (pa_cons (pv 0) (pa_cons (pe_glob (v := .ref T.C_InvalidSession) rfl T.g_InvalidSession rfl) pa_nil))) pa_nil)))))
        (C8.pss_cut (ps_set (i := 1) sc_law_classes.nd rfl (Or.inr rfl) (pe_op op_cat (pv 1) (pe_lst (pa_cons (pe_callB (id := "isinstance") (r := rIsE K) call_isE (by rfl) T.z_isinstance (by decide +kernel) (pa_cons (pv 0) (pa_cons (pe_glob (v := .ref T.C_InvalidNumber) rfl T.g_InvalidNumber rfl) pa_nil))) (pa_cons (pe_callB (id := "isinstance") (r := rIsE K) call_isE (by rfl) T.z_isinstance (by decide +kernel) (pa_cons (pv 0) (pa_cons (pe_glob (v := .ref T.C_InvalidWeaving) rfl T.g_InvalidWeaving rfl) pa_nil))) pa_nil)))))
        (C8.pss_cut (ps_set (i := 1) sc_law_classes.nd rfl (Or.inr rfl) (pe_op op_cat (pv 1) (pe_lst (pa_cons (pe_callB (id := "isinstance") (r := rIsE K) call_isE (by rfl) T.z_isinstance (by decide +kernel) (pa_cons (pv 0) (pa_cons (pe_glob (v := .ref T.C_InvalidStore) rfl T.g_InvalidStore rfl) pa_nil))) (pa_cons (pe_callB (id := "isinstance") (r := rIsE K) call_isE (by rfl) T.z_isinstance (by decide +kernel) (pa_cons (pv 0) (pa_cons (pe_glob (v := .ref T.C_InvalidScene) rfl T.g_InvalidScene rfl) pa_nil))) pa_nil)))))
        (C8.pss_cut (ps_set (i := 1) sc_law_classes.nd rfl (Or.inr rfl) (pe_op op_cat (pv 1) (pe_lst (pa_cons (pe_callB (id := "isinstance") (r := rIsE K) call_isE (by rfl) T.z_isinstance (by decide +kernel) (pa_cons (pv 0) (pa_cons (pe_glob (v := .ref T.C_InvalidLog) rfl T.g_InvalidLog rfl) pa_nil))) (pa_cons (pe_callB (id := "isinstance") (r := rIsE K) call_isE (by rfl) T.z_isinstance (by decide +kernel) (pa_cons (pv 0) (pa_cons (pe_glob (v := .ref T.C_InvalidText) rfl T.g_InvalidText rfl) pa_nil))) pa_nil)))))
        (C8.pss_cut (ps_set (i := 1) sc_law_classes.nd rfl (Or.inr rfl) (pe_op op_cat (pv 1) (pe_lst (pa_cons (pe_callB (id := "isinstance") (r := rIsE K) call_isE (by rfl) T.z_isinstance (by decide +kernel) (pa_cons (pv 0) (pa_cons (pe_glob (v := .ref T.C_InvalidCommand) rfl T.g_InvalidCommand rfl) pa_nil))) (pa_cons (pe_callB (id := "isinstance") (r := rIsE K) call_isE (by rfl) T.z_isinstance (by decide +kernel) (pa_cons (pv 0) (pa_cons (pe_glob (v := .ref T.C_Duplicate) rfl T.g_Duplicate rfl) pa_nil))) pa_nil)))))
        (C8.pss_cut (ps_set (i := 1) sc_law_classes.nd rfl (Or.inr rfl) (pe_op op_cat (pv 1) (pe_lst (pa_cons (pe_callB (id := "isinstance") (r := rIsE K) call_isE (by rfl) T.z_isinstance (by decide +kernel) (pa_cons (pv 0) (pa_cons (pe_glob (v := .ref T.C_UnknownPart) rfl T.g_UnknownPart rfl) pa_nil))) (pa_cons (pe_callB (id := "isinstance") (r := rIsE K) call_isE (by rfl) T.z_isinstance (by decide +kernel) (pa_cons (pv 0) (pa_cons (pe_glob (v := .ref T.C_UnknownMode) rfl T.g_UnknownMode rfl) pa_nil))) pa_nil)))))
        (C8.pss_cut (ps_set (i := 1) sc_law_classes.nd rfl (Or.inr rfl) (pe_op op_cat (pv 1) (pe_lst (pa_cons (pe_callB (id := "isinstance") (r := rIsE K) call_isE (by rfl) T.z_isinstance (by decide +kernel) (pa_cons (pv 0) (pa_cons (pe_glob (v := .ref T.C_UnknownEntry) rfl T.g_UnknownEntry rfl) pa_nil))) (pa_cons (pe_callB (id := "isinstance") (r := rIsE K) call_isE (by rfl) T.z_isinstance (by decide +kernel) (pa_cons (pv 0) (pa_cons (pe_glob (v := .ref T.C_NameTaken) rfl T.g_NameTaken rfl) pa_nil))) pa_nil)))))
        (C8.pss_cut (ps_set (i := 1) sc_law_classes.nd rfl (Or.inr rfl) (pe_op op_cat (pv 1) (pe_lst (pa_cons (pe_callB (id := "isinstance") (r := rIsE K) call_isE (by rfl) T.z_isinstance (by decide +kernel) (pa_cons (pv 0) (pa_cons (pe_glob (v := .ref T.C_Overlap) rfl T.g_Overlap rfl) pa_nil))) (pa_cons (pe_callB (id := "isinstance") (r := rIsE K) call_isE (by rfl) T.z_isinstance (by decide +kernel) (pa_cons (pv 0) (pa_cons (pe_glob (v := .ref T.C_NotInside) rfl T.g_NotInside rfl) pa_nil))) pa_nil)))))
        (C8.pss_cut (ps_set (i := 1) sc_law_classes.nd rfl (Or.inr rfl) (pe_op op_cat (pv 1) (pe_lst (pa_cons (pe_callB (id := "isinstance") (r := rIsE K) call_isE (by rfl) T.z_isinstance (by decide +kernel) (pa_cons (pv 0) (pa_cons (pe_glob (v := .ref T.C_NotNeighbours) rfl T.g_NotNeighbours rfl) pa_nil))) (pa_cons (pe_callB (id := "isinstance") (r := rIsE K) call_isE (by rfl) T.z_isinstance (by decide +kernel) (pa_cons (pv 0) (pa_cons (pe_glob (v := .ref T.C_NoProgram) rfl T.g_NoProgram rfl) pa_nil))) pa_nil)))))
        (C8.pss_cut (ps_set (i := 1) sc_law_classes.nd rfl (Or.inr rfl) (pe_op op_cat (pv 1) (pe_lst (pa_cons (pe_callB (id := "isinstance") (r := rIsE K) call_isE (by rfl) T.z_isinstance (by decide +kernel) (pa_cons (pv 0) (pa_cons (pe_glob (v := .ref T.C_TooMany) rfl T.g_TooMany rfl) pa_nil))) (pa_cons (pe_callB (id := "isinstance") (r := rIsE K) call_isE (by rfl) T.z_isinstance (by decide +kernel) (pa_cons (pv 0) (pa_cons (pe_glob (v := .ref T.C_Ended) rfl T.g_Ended rfl) pa_nil))) pa_nil)))))
        (C8.pss_cut (ps_set (i := 1) sc_law_classes.nd rfl (Or.inr rfl) (pe_op op_cat (pv 1) (pe_lst (pa_cons (pe_callB (id := "isinstance") (r := rIsE K) call_isE (by rfl) T.z_isinstance (by decide +kernel) (pa_cons (pv 0) (pa_cons (pe_glob (v := .ref T.C_Waiting) rfl T.g_Waiting rfl) pa_nil))) (pa_cons (pe_callB (id := "isinstance") (r := rIsE K) call_isE (by rfl) T.z_isinstance (by decide +kernel) (pa_cons (pv 0) (pa_cons (pe_glob (v := .ref T.C_NothingBad) rfl T.g_NothingBad rfl) pa_nil))) pa_nil)))))
        (C8.pss_cut (ps_set (i := 1) sc_law_classes.nd rfl (Or.inr rfl) (pe_op op_cat (pv 1) (pe_lst (pa_cons (pe_callB (id := "isinstance") (r := rIsE K) call_isE (by rfl) T.z_isinstance (by decide +kernel) (pa_cons (pv 0) (pa_cons (pe_glob (v := .ref T.C_NotRight) rfl T.g_NotRight rfl) pa_nil))) (pa_cons (pe_callB (id := "isinstance") (r := rIsE K) call_isE (by rfl) T.z_isinstance (by decide +kernel) (pa_cons (pv 0) (pa_cons (pe_glob (v := .ref T.C_NoStore) rfl T.g_NoStore rfl) pa_nil))) pa_nil)))))
        (C8.pss_cut (ps_set (i := 1) sc_law_classes.nd rfl (Or.inr rfl) (pe_op op_cat (pv 1) (pe_lst (pa_cons (pe_callB (id := "isinstance") (r := rIsE K) call_isE (by rfl) T.z_isinstance (by decide +kernel) (pa_cons (pv 0) (pa_cons (pe_glob (v := .ref T.C_NothingToUndo) rfl T.g_NothingToUndo rfl) pa_nil))) (pa_cons (pe_callB (id := "isinstance") (r := rIsE K) call_isE (by rfl) T.z_isinstance (by decide +kernel) (pa_cons (pv 0) (pa_cons (pe_glob (v := .ref T.C_NothingToRedo) rfl T.g_NothingToRedo rfl) pa_nil))) pa_nil)))))
        (pss_one (ps_ret (pe_lc (own := [("_law_k", 2)]) (g := gName 2) rfl sc_law_classes.nd (pi_range1 rfl T.z_range (pa_cons (pe_callB (id := "len") call_len_seq (by rfl) T.z_len (by decide +kernel) (pa_cons (pv 1) pa_nil)) pa_nil)) (blkOk_by (own := [("_law_k", 2)]) (N := ["_law_error", "_law_found", "_law_k"]) (sc := defScope s_law_classes) (by decide +kernel)) (fun _ _ _ _ _ => (pg_name (i := 2) sc_law_classes.nd rfl (Or.inl rfl))) (fun _ _ _ _ _ => (pts_one (pt_val (pe_ix (r := rIxL K) ix_list (pv 1) (pv 2) (fun _ _ => rfl))))) (fun _ _ _ _ _ => (pv 2))))))))))))))))))))))))), ?_⟩
    refine ⟨Nat.zero_le _, fun f0 h0 => ?_⟩
    have s0 := same_new (o := .lst []) h0
    have w0 : (upd H f0 (.lst [])) f0 = some (.lst ([] : List V)) := upd_same
    have e0 := ea.mono s0
    refine ⟨fun σ H' => ∃ f : Addr, σ = [some (.ref a), some (.ref f), none] ∧ Same H H' ∧ H' f = some (HO.lst [.bl (bits 0), .bl (bits 1)]), ?_, ?_⟩
    · refine ⟨_, rfl, _, rfl, a, C, .ref T.C_InvalidName, .ref T.C_InvalidName, bits 0, rfl, .own _, e0, KE, k0, _, rfl, a, C, .ref T.C_InvalidKey, .ref T.C_InvalidKey, bits 1, rfl, .own _, e0, KE, k1, (by show 2 ≤ sizeLine; decide), fun l hl => ?_⟩
      have sa := same_new (o := .lst [.bl (bits 0), .bl (bits 1)]) hl
      refine ⟨f0, l, _, _, rfl, rfl, sa _ _ w0, upd_same, (by show 2 ≤ sizeLine; decide), fun f hf => ?_⟩
      exact ⟨f, rfl, s0.trans (sa.trans (same_new hf)), upd_same⟩
    rintro σ G1 ⟨f1, rfl, s1, w1⟩
    have e1 := ea.mono s1
    refine ⟨fun σ H' => ∃ f : Addr, σ = [some (.ref a), some (.ref f), none] ∧ Same H H' ∧ H' f = some (HO.lst [.bl (bits 0), .bl (bits 1), .bl (bits 2), .bl (bits 3)]), ?_, ?_⟩
    · refine ⟨_, rfl, _, rfl, a, C, .ref T.C_InvalidSpan, .ref T.C_InvalidSpan, bits 2, rfl, .own _, e1, KE, k2, _, rfl, a, C, .ref T.C_InvalidSpans, .ref T.C_InvalidSpans, bits 3, rfl, .own _, e1, KE, k3, (by show 2 ≤ sizeLine; decide), fun l hl => ?_⟩
      have sa := same_new (o := .lst [.bl (bits 2), .bl (bits 3)]) hl
      refine ⟨f1, l, _, _, rfl, rfl, sa _ _ w1, upd_same, (by show 4 ≤ sizeLine; decide), fun f hf => ?_⟩
      exact ⟨f, rfl, s1.trans (sa.trans (same_new hf)), upd_same⟩
    rintro σ G2 ⟨f2, rfl, s2, w2⟩
    have e2 := ea.mono s2
    refine ⟨fun σ H' => ∃ f : Addr, σ = [some (.ref a), some (.ref f), none] ∧ Same H H' ∧ H' f = some (HO.lst [.bl (bits 0), .bl (bits 1), .bl (bits 2), .bl (bits 3), .bl (bits 4), .bl (bits 5)]), ?_, ?_⟩
    · refine ⟨_, rfl, _, rfl, a, C, .ref T.C_InvalidCatalog, .ref T.C_InvalidCatalog, bits 4, rfl, .own _, e2, KE, k4, _, rfl, a, C, .ref T.C_InvalidChange, .ref T.C_InvalidChange, bits 5, rfl, .own _, e2, KE, k5, (by show 2 ≤ sizeLine; decide), fun l hl => ?_⟩
      have sa := same_new (o := .lst [.bl (bits 4), .bl (bits 5)]) hl
      refine ⟨f2, l, _, _, rfl, rfl, sa _ _ w2, upd_same, (by show 6 ≤ sizeLine; decide), fun f hf => ?_⟩
      exact ⟨f, rfl, s2.trans (sa.trans (same_new hf)), upd_same⟩
    rintro σ G3 ⟨f3, rfl, s3, w3⟩
    have e3 := ea.mono s3
    refine ⟨fun σ H' => ∃ f : Addr, σ = [some (.ref a), some (.ref f), none] ∧ Same H H' ∧ H' f = some (HO.lst [.bl (bits 0), .bl (bits 1), .bl (bits 2), .bl (bits 3), .bl (bits 4), .bl (bits 5), .bl (bits 6), .bl (bits 7)]), ?_, ?_⟩
    · refine ⟨_, rfl, _, rfl, a, C, .ref T.C_InvalidModes, .ref T.C_InvalidModes, bits 6, rfl, .own _, e3, KE, k6, _, rfl, a, C, .ref T.C_InvalidClash, .ref T.C_InvalidClash, bits 7, rfl, .own _, e3, KE, k7, (by show 2 ≤ sizeLine; decide), fun l hl => ?_⟩
      have sa := same_new (o := .lst [.bl (bits 6), .bl (bits 7)]) hl
      refine ⟨f3, l, _, _, rfl, rfl, sa _ _ w3, upd_same, (by show 8 ≤ sizeLine; decide), fun f hf => ?_⟩
      exact ⟨f, rfl, s3.trans (sa.trans (same_new hf)), upd_same⟩
    rintro σ G4 ⟨f4, rfl, s4, w4⟩
    have e4 := ea.mono s4
    refine ⟨fun σ H' => ∃ f : Addr, σ = [some (.ref a), some (.ref f), none] ∧ Same H H' ∧ H' f = some (HO.lst [.bl (bits 0), .bl (bits 1), .bl (bits 2), .bl (bits 3), .bl (bits 4), .bl (bits 5), .bl (bits 6), .bl (bits 7), .bl (bits 8), .bl (bits 9)]), ?_, ?_⟩
    · refine ⟨_, rfl, _, rfl, a, C, .ref T.C_InvalidStrengths, .ref T.C_InvalidStrengths, bits 8, rfl, .own _, e4, KE, k8, _, rfl, a, C, .ref T.C_InvalidProgram, .ref T.C_InvalidProgram, bits 9, rfl, .own _, e4, KE, k9, (by show 2 ≤ sizeLine; decide), fun l hl => ?_⟩
      have sa := same_new (o := .lst [.bl (bits 8), .bl (bits 9)]) hl
      refine ⟨f4, l, _, _, rfl, rfl, sa _ _ w4, upd_same, (by show 10 ≤ sizeLine; decide), fun f hf => ?_⟩
      exact ⟨f, rfl, s4.trans (sa.trans (same_new hf)), upd_same⟩
    rintro σ G5 ⟨f5, rfl, s5, w5⟩
    have e5 := ea.mono s5
    refine ⟨fun σ H' => ∃ f : Addr, σ = [some (.ref a), some (.ref f), none] ∧ Same H H' ∧ H' f = some (HO.lst [.bl (bits 0), .bl (bits 1), .bl (bits 2), .bl (bits 3), .bl (bits 4), .bl (bits 5), .bl (bits 6), .bl (bits 7), .bl (bits 8), .bl (bits 9), .bl (bits 10), .bl (bits 11)]), ?_, ?_⟩
    · refine ⟨_, rfl, _, rfl, a, C, .ref T.C_InvalidPrograms, .ref T.C_InvalidPrograms, bits 10, rfl, .own _, e5, KE, k10, _, rfl, a, C, .ref T.C_InvalidProtocol, .ref T.C_InvalidProtocol, bits 11, rfl, .own _, e5, KE, k11, (by show 2 ≤ sizeLine; decide), fun l hl => ?_⟩
      have sa := same_new (o := .lst [.bl (bits 10), .bl (bits 11)]) hl
      refine ⟨f5, l, _, _, rfl, rfl, sa _ _ w5, upd_same, (by show 12 ≤ sizeLine; decide), fun f hf => ?_⟩
      exact ⟨f, rfl, s5.trans (sa.trans (same_new hf)), upd_same⟩
    rintro σ G6 ⟨f6, rfl, s6, w6⟩
    have e6 := ea.mono s6
    refine ⟨fun σ H' => ∃ f : Addr, σ = [some (.ref a), some (.ref f), none] ∧ Same H H' ∧ H' f = some (HO.lst [.bl (bits 0), .bl (bits 1), .bl (bits 2), .bl (bits 3), .bl (bits 4), .bl (bits 5), .bl (bits 6), .bl (bits 7), .bl (bits 8), .bl (bits 9), .bl (bits 10), .bl (bits 11), .bl (bits 12), .bl (bits 13)]), ?_, ?_⟩
    · refine ⟨_, rfl, _, rfl, a, C, .ref T.C_InvalidRows, .ref T.C_InvalidRows, bits 12, rfl, .own _, e6, KE, k12, _, rfl, a, C, .ref T.C_InvalidSession, .ref T.C_InvalidSession, bits 13, rfl, .own _, e6, KE, k13, (by show 2 ≤ sizeLine; decide), fun l hl => ?_⟩
      have sa := same_new (o := .lst [.bl (bits 12), .bl (bits 13)]) hl
      refine ⟨f6, l, _, _, rfl, rfl, sa _ _ w6, upd_same, (by show 14 ≤ sizeLine; decide), fun f hf => ?_⟩
      exact ⟨f, rfl, s6.trans (sa.trans (same_new hf)), upd_same⟩
    rintro σ G7 ⟨f7, rfl, s7, w7⟩
    have e7 := ea.mono s7
    refine ⟨fun σ H' => ∃ f : Addr, σ = [some (.ref a), some (.ref f), none] ∧ Same H H' ∧ H' f = some (HO.lst [.bl (bits 0), .bl (bits 1), .bl (bits 2), .bl (bits 3), .bl (bits 4), .bl (bits 5), .bl (bits 6), .bl (bits 7), .bl (bits 8), .bl (bits 9), .bl (bits 10), .bl (bits 11), .bl (bits 12), .bl (bits 13), .bl (bits 14), .bl (bits 15)]), ?_, ?_⟩
    · refine ⟨_, rfl, _, rfl, a, C, .ref T.C_InvalidNumber, .ref T.C_InvalidNumber, bits 14, rfl, .own _, e7, KE, k14, _, rfl, a, C, .ref T.C_InvalidWeaving, .ref T.C_InvalidWeaving, bits 15, rfl, .own _, e7, KE, k15, (by show 2 ≤ sizeLine; decide), fun l hl => ?_⟩
      have sa := same_new (o := .lst [.bl (bits 14), .bl (bits 15)]) hl
      refine ⟨f7, l, _, _, rfl, rfl, sa _ _ w7, upd_same, (by show 16 ≤ sizeLine; decide), fun f hf => ?_⟩
      exact ⟨f, rfl, s7.trans (sa.trans (same_new hf)), upd_same⟩
    rintro σ G8 ⟨f8, rfl, s8, w8⟩
    have e8 := ea.mono s8
    refine ⟨fun σ H' => ∃ f : Addr, σ = [some (.ref a), some (.ref f), none] ∧ Same H H' ∧ H' f = some (HO.lst [.bl (bits 0), .bl (bits 1), .bl (bits 2), .bl (bits 3), .bl (bits 4), .bl (bits 5), .bl (bits 6), .bl (bits 7), .bl (bits 8), .bl (bits 9), .bl (bits 10), .bl (bits 11), .bl (bits 12), .bl (bits 13), .bl (bits 14), .bl (bits 15), .bl (bits 16), .bl (bits 17)]), ?_, ?_⟩
    · refine ⟨_, rfl, _, rfl, a, C, .ref T.C_InvalidStore, .ref T.C_InvalidStore, bits 16, rfl, .own _, e8, KE, k16, _, rfl, a, C, .ref T.C_InvalidScene, .ref T.C_InvalidScene, bits 17, rfl, .own _, e8, KE, k17, (by show 2 ≤ sizeLine; decide), fun l hl => ?_⟩
      have sa := same_new (o := .lst [.bl (bits 16), .bl (bits 17)]) hl
      refine ⟨f8, l, _, _, rfl, rfl, sa _ _ w8, upd_same, (by show 18 ≤ sizeLine; decide), fun f hf => ?_⟩
      exact ⟨f, rfl, s8.trans (sa.trans (same_new hf)), upd_same⟩
    rintro σ G9 ⟨f9, rfl, s9, w9⟩
    have e9 := ea.mono s9
    refine ⟨fun σ H' => ∃ f : Addr, σ = [some (.ref a), some (.ref f), none] ∧ Same H H' ∧ H' f = some (HO.lst [.bl (bits 0), .bl (bits 1), .bl (bits 2), .bl (bits 3), .bl (bits 4), .bl (bits 5), .bl (bits 6), .bl (bits 7), .bl (bits 8), .bl (bits 9), .bl (bits 10), .bl (bits 11), .bl (bits 12), .bl (bits 13), .bl (bits 14), .bl (bits 15), .bl (bits 16), .bl (bits 17), .bl (bits 18), .bl (bits 19)]), ?_, ?_⟩
    · refine ⟨_, rfl, _, rfl, a, C, .ref T.C_InvalidLog, .ref T.C_InvalidLog, bits 18, rfl, .own _, e9, KE, k18, _, rfl, a, C, .ref T.C_InvalidText, .ref T.C_InvalidText, bits 19, rfl, .own _, e9, KE, k19, (by show 2 ≤ sizeLine; decide), fun l hl => ?_⟩
      have sa := same_new (o := .lst [.bl (bits 18), .bl (bits 19)]) hl
      refine ⟨f9, l, _, _, rfl, rfl, sa _ _ w9, upd_same, (by show 20 ≤ sizeLine; decide), fun f hf => ?_⟩
      exact ⟨f, rfl, s9.trans (sa.trans (same_new hf)), upd_same⟩
    rintro σ G10 ⟨f10, rfl, s10, w10⟩
    have e10 := ea.mono s10
    refine ⟨fun σ H' => ∃ f : Addr, σ = [some (.ref a), some (.ref f), none] ∧ Same H H' ∧ H' f = some (HO.lst [.bl (bits 0), .bl (bits 1), .bl (bits 2), .bl (bits 3), .bl (bits 4), .bl (bits 5), .bl (bits 6), .bl (bits 7), .bl (bits 8), .bl (bits 9), .bl (bits 10), .bl (bits 11), .bl (bits 12), .bl (bits 13), .bl (bits 14), .bl (bits 15), .bl (bits 16), .bl (bits 17), .bl (bits 18), .bl (bits 19), .bl (bits 20), .bl (bits 21)]), ?_, ?_⟩
    · refine ⟨_, rfl, _, rfl, a, C, .ref T.C_InvalidCommand, .ref T.C_InvalidCommand, bits 20, rfl, .own _, e10, KE, k20, _, rfl, a, C, .ref T.C_Duplicate, .ref T.C_Duplicate, bits 21, rfl, .own _, e10, KE, k21, (by show 2 ≤ sizeLine; decide), fun l hl => ?_⟩
      have sa := same_new (o := .lst [.bl (bits 20), .bl (bits 21)]) hl
      refine ⟨f10, l, _, _, rfl, rfl, sa _ _ w10, upd_same, (by show 22 ≤ sizeLine; decide), fun f hf => ?_⟩
      exact ⟨f, rfl, s10.trans (sa.trans (same_new hf)), upd_same⟩
    rintro σ G11 ⟨f11, rfl, s11, w11⟩
    have e11 := ea.mono s11
    refine ⟨fun σ H' => ∃ f : Addr, σ = [some (.ref a), some (.ref f), none] ∧ Same H H' ∧ H' f = some (HO.lst [.bl (bits 0), .bl (bits 1), .bl (bits 2), .bl (bits 3), .bl (bits 4), .bl (bits 5), .bl (bits 6), .bl (bits 7), .bl (bits 8), .bl (bits 9), .bl (bits 10), .bl (bits 11), .bl (bits 12), .bl (bits 13), .bl (bits 14), .bl (bits 15), .bl (bits 16), .bl (bits 17), .bl (bits 18), .bl (bits 19), .bl (bits 20), .bl (bits 21), .bl (bits 22), .bl (bits 23)]), ?_, ?_⟩
    · refine ⟨_, rfl, _, rfl, a, C, .ref T.C_UnknownPart, .ref T.C_UnknownPart, bits 22, rfl, .own _, e11, KE, k22, _, rfl, a, C, .ref T.C_UnknownMode, .ref T.C_UnknownMode, bits 23, rfl, .own _, e11, KE, k23, (by show 2 ≤ sizeLine; decide), fun l hl => ?_⟩
      have sa := same_new (o := .lst [.bl (bits 22), .bl (bits 23)]) hl
      refine ⟨f11, l, _, _, rfl, rfl, sa _ _ w11, upd_same, (by show 24 ≤ sizeLine; decide), fun f hf => ?_⟩
      exact ⟨f, rfl, s11.trans (sa.trans (same_new hf)), upd_same⟩
    rintro σ G12 ⟨f12, rfl, s12, w12⟩
    have e12 := ea.mono s12
    refine ⟨fun σ H' => ∃ f : Addr, σ = [some (.ref a), some (.ref f), none] ∧ Same H H' ∧ H' f = some (HO.lst [.bl (bits 0), .bl (bits 1), .bl (bits 2), .bl (bits 3), .bl (bits 4), .bl (bits 5), .bl (bits 6), .bl (bits 7), .bl (bits 8), .bl (bits 9), .bl (bits 10), .bl (bits 11), .bl (bits 12), .bl (bits 13), .bl (bits 14), .bl (bits 15), .bl (bits 16), .bl (bits 17), .bl (bits 18), .bl (bits 19), .bl (bits 20), .bl (bits 21), .bl (bits 22), .bl (bits 23), .bl (bits 24), .bl (bits 25)]), ?_, ?_⟩
    · refine ⟨_, rfl, _, rfl, a, C, .ref T.C_UnknownEntry, .ref T.C_UnknownEntry, bits 24, rfl, .own _, e12, KE, k24, _, rfl, a, C, .ref T.C_NameTaken, .ref T.C_NameTaken, bits 25, rfl, .own _, e12, KE, k25, (by show 2 ≤ sizeLine; decide), fun l hl => ?_⟩
      have sa := same_new (o := .lst [.bl (bits 24), .bl (bits 25)]) hl
      refine ⟨f12, l, _, _, rfl, rfl, sa _ _ w12, upd_same, (by show 26 ≤ sizeLine; decide), fun f hf => ?_⟩
      exact ⟨f, rfl, s12.trans (sa.trans (same_new hf)), upd_same⟩
    rintro σ G13 ⟨f13, rfl, s13, w13⟩
    have e13 := ea.mono s13
    refine ⟨fun σ H' => ∃ f : Addr, σ = [some (.ref a), some (.ref f), none] ∧ Same H H' ∧ H' f = some (HO.lst [.bl (bits 0), .bl (bits 1), .bl (bits 2), .bl (bits 3), .bl (bits 4), .bl (bits 5), .bl (bits 6), .bl (bits 7), .bl (bits 8), .bl (bits 9), .bl (bits 10), .bl (bits 11), .bl (bits 12), .bl (bits 13), .bl (bits 14), .bl (bits 15), .bl (bits 16), .bl (bits 17), .bl (bits 18), .bl (bits 19), .bl (bits 20), .bl (bits 21), .bl (bits 22), .bl (bits 23), .bl (bits 24), .bl (bits 25), .bl (bits 26), .bl (bits 27)]), ?_, ?_⟩
    · refine ⟨_, rfl, _, rfl, a, C, .ref T.C_Overlap, .ref T.C_Overlap, bits 26, rfl, .own _, e13, KE, k26, _, rfl, a, C, .ref T.C_NotInside, .ref T.C_NotInside, bits 27, rfl, .own _, e13, KE, k27, (by show 2 ≤ sizeLine; decide), fun l hl => ?_⟩
      have sa := same_new (o := .lst [.bl (bits 26), .bl (bits 27)]) hl
      refine ⟨f13, l, _, _, rfl, rfl, sa _ _ w13, upd_same, (by show 28 ≤ sizeLine; decide), fun f hf => ?_⟩
      exact ⟨f, rfl, s13.trans (sa.trans (same_new hf)), upd_same⟩
    rintro σ G14 ⟨f14, rfl, s14, w14⟩
    have e14 := ea.mono s14
    refine ⟨fun σ H' => ∃ f : Addr, σ = [some (.ref a), some (.ref f), none] ∧ Same H H' ∧ H' f = some (HO.lst [.bl (bits 0), .bl (bits 1), .bl (bits 2), .bl (bits 3), .bl (bits 4), .bl (bits 5), .bl (bits 6), .bl (bits 7), .bl (bits 8), .bl (bits 9), .bl (bits 10), .bl (bits 11), .bl (bits 12), .bl (bits 13), .bl (bits 14), .bl (bits 15), .bl (bits 16), .bl (bits 17), .bl (bits 18), .bl (bits 19), .bl (bits 20), .bl (bits 21), .bl (bits 22), .bl (bits 23), .bl (bits 24), .bl (bits 25), .bl (bits 26), .bl (bits 27), .bl (bits 28), .bl (bits 29)]), ?_, ?_⟩
    · refine ⟨_, rfl, _, rfl, a, C, .ref T.C_NotNeighbours, .ref T.C_NotNeighbours, bits 28, rfl, .own _, e14, KE, k28, _, rfl, a, C, .ref T.C_NoProgram, .ref T.C_NoProgram, bits 29, rfl, .own _, e14, KE, k29, (by show 2 ≤ sizeLine; decide), fun l hl => ?_⟩
      have sa := same_new (o := .lst [.bl (bits 28), .bl (bits 29)]) hl
      refine ⟨f14, l, _, _, rfl, rfl, sa _ _ w14, upd_same, (by show 30 ≤ sizeLine; decide), fun f hf => ?_⟩
      exact ⟨f, rfl, s14.trans (sa.trans (same_new hf)), upd_same⟩
    rintro σ G15 ⟨f15, rfl, s15, w15⟩
    have e15 := ea.mono s15
    refine ⟨fun σ H' => ∃ f : Addr, σ = [some (.ref a), some (.ref f), none] ∧ Same H H' ∧ H' f = some (HO.lst [.bl (bits 0), .bl (bits 1), .bl (bits 2), .bl (bits 3), .bl (bits 4), .bl (bits 5), .bl (bits 6), .bl (bits 7), .bl (bits 8), .bl (bits 9), .bl (bits 10), .bl (bits 11), .bl (bits 12), .bl (bits 13), .bl (bits 14), .bl (bits 15), .bl (bits 16), .bl (bits 17), .bl (bits 18), .bl (bits 19), .bl (bits 20), .bl (bits 21), .bl (bits 22), .bl (bits 23), .bl (bits 24), .bl (bits 25), .bl (bits 26), .bl (bits 27), .bl (bits 28), .bl (bits 29), .bl (bits 30), .bl (bits 31)]), ?_, ?_⟩
    · refine ⟨_, rfl, _, rfl, a, C, .ref T.C_TooMany, .ref T.C_TooMany, bits 30, rfl, .own _, e15, KE, k30, _, rfl, a, C, .ref T.C_Ended, .ref T.C_Ended, bits 31, rfl, .own _, e15, KE, k31, (by show 2 ≤ sizeLine; decide), fun l hl => ?_⟩
      have sa := same_new (o := .lst [.bl (bits 30), .bl (bits 31)]) hl
      refine ⟨f15, l, _, _, rfl, rfl, sa _ _ w15, upd_same, (by show 32 ≤ sizeLine; decide), fun f hf => ?_⟩
      exact ⟨f, rfl, s15.trans (sa.trans (same_new hf)), upd_same⟩
    rintro σ G16 ⟨f16, rfl, s16, w16⟩
    have e16 := ea.mono s16
    refine ⟨fun σ H' => ∃ f : Addr, σ = [some (.ref a), some (.ref f), none] ∧ Same H H' ∧ H' f = some (HO.lst [.bl (bits 0), .bl (bits 1), .bl (bits 2), .bl (bits 3), .bl (bits 4), .bl (bits 5), .bl (bits 6), .bl (bits 7), .bl (bits 8), .bl (bits 9), .bl (bits 10), .bl (bits 11), .bl (bits 12), .bl (bits 13), .bl (bits 14), .bl (bits 15), .bl (bits 16), .bl (bits 17), .bl (bits 18), .bl (bits 19), .bl (bits 20), .bl (bits 21), .bl (bits 22), .bl (bits 23), .bl (bits 24), .bl (bits 25), .bl (bits 26), .bl (bits 27), .bl (bits 28), .bl (bits 29), .bl (bits 30), .bl (bits 31), .bl (bits 32), .bl (bits 33)]), ?_, ?_⟩
    · refine ⟨_, rfl, _, rfl, a, C, .ref T.C_Waiting, .ref T.C_Waiting, bits 32, rfl, .own _, e16, KE, k32, _, rfl, a, C, .ref T.C_NothingBad, .ref T.C_NothingBad, bits 33, rfl, .own _, e16, KE, k33, (by show 2 ≤ sizeLine; decide), fun l hl => ?_⟩
      have sa := same_new (o := .lst [.bl (bits 32), .bl (bits 33)]) hl
      refine ⟨f16, l, _, _, rfl, rfl, sa _ _ w16, upd_same, (by show 34 ≤ sizeLine; decide), fun f hf => ?_⟩
      exact ⟨f, rfl, s16.trans (sa.trans (same_new hf)), upd_same⟩
    rintro σ G17 ⟨f17, rfl, s17, w17⟩
    have e17 := ea.mono s17
    refine ⟨fun σ H' => ∃ f : Addr, σ = [some (.ref a), some (.ref f), none] ∧ Same H H' ∧ H' f = some (HO.lst [.bl (bits 0), .bl (bits 1), .bl (bits 2), .bl (bits 3), .bl (bits 4), .bl (bits 5), .bl (bits 6), .bl (bits 7), .bl (bits 8), .bl (bits 9), .bl (bits 10), .bl (bits 11), .bl (bits 12), .bl (bits 13), .bl (bits 14), .bl (bits 15), .bl (bits 16), .bl (bits 17), .bl (bits 18), .bl (bits 19), .bl (bits 20), .bl (bits 21), .bl (bits 22), .bl (bits 23), .bl (bits 24), .bl (bits 25), .bl (bits 26), .bl (bits 27), .bl (bits 28), .bl (bits 29), .bl (bits 30), .bl (bits 31), .bl (bits 32), .bl (bits 33), .bl (bits 34), .bl (bits 35)]), ?_, ?_⟩
    · refine ⟨_, rfl, _, rfl, a, C, .ref T.C_NotRight, .ref T.C_NotRight, bits 34, rfl, .own _, e17, KE, k34, _, rfl, a, C, .ref T.C_NoStore, .ref T.C_NoStore, bits 35, rfl, .own _, e17, KE, k35, (by show 2 ≤ sizeLine; decide), fun l hl => ?_⟩
      have sa := same_new (o := .lst [.bl (bits 34), .bl (bits 35)]) hl
      refine ⟨f17, l, _, _, rfl, rfl, sa _ _ w17, upd_same, (by show 36 ≤ sizeLine; decide), fun f hf => ?_⟩
      exact ⟨f, rfl, s17.trans (sa.trans (same_new hf)), upd_same⟩
    rintro σ G18 ⟨f18, rfl, s18, w18⟩
    have e18 := ea.mono s18
    refine ⟨fun σ H' => ∃ f : Addr, σ = [some (.ref a), some (.ref f), none] ∧ Same H H' ∧ H' f = some (HO.lst [.bl (bits 0), .bl (bits 1), .bl (bits 2), .bl (bits 3), .bl (bits 4), .bl (bits 5), .bl (bits 6), .bl (bits 7), .bl (bits 8), .bl (bits 9), .bl (bits 10), .bl (bits 11), .bl (bits 12), .bl (bits 13), .bl (bits 14), .bl (bits 15), .bl (bits 16), .bl (bits 17), .bl (bits 18), .bl (bits 19), .bl (bits 20), .bl (bits 21), .bl (bits 22), .bl (bits 23), .bl (bits 24), .bl (bits 25), .bl (bits 26), .bl (bits 27), .bl (bits 28), .bl (bits 29), .bl (bits 30), .bl (bits 31), .bl (bits 32), .bl (bits 33), .bl (bits 34), .bl (bits 35), .bl (bits 36), .bl (bits 37)]), ?_, ?_⟩
    · refine ⟨_, rfl, _, rfl, a, C, .ref T.C_NothingToUndo, .ref T.C_NothingToUndo, bits 36, rfl, .own _, e18, KE, k36, _, rfl, a, C, .ref T.C_NothingToRedo, .ref T.C_NothingToRedo, bits 37, rfl, .own _, e18, KE, k37, (by show 2 ≤ sizeLine; decide), fun l hl => ?_⟩
      have sa := same_new (o := .lst [.bl (bits 36), .bl (bits 37)]) hl
      refine ⟨f18, l, _, _, rfl, rfl, sa _ _ w18, upd_same, (by show 38 ≤ sizeLine; decide), fun f hf => ?_⟩
      exact ⟨f, rfl, s18.trans (sa.trans (same_new hf)), upd_same⟩
    rintro σ G19 ⟨f19, rfl, s19, w19⟩
    have e19 := ea.mono s19
    have w : G19 f19 = some (HO.lst ((List.range 38).map fun j => V.bl (bits j))) := w19
    clear w0 w1 w2 w3 w4 w5 w6 w7 w8 w9 w10 w11 w12 w13 w14 w15 w16 w17 w18
    have at' : ∀ i : Nat, i < 38 → atI ((List.range 38).map fun j => V.bl (bits j)) (0 + (i : Int)) = some (.bl (bits i)) := fun i hi => by
      rw [Int.zero_add]
      exact atI_nat (by rw [List.getElem?_map, List.getElem?_range hi]; rfl)
    refine ⟨_, rfl, f19, _, rfl, .inl (SqL.of w), _, rfl, (by rw [List.length_map, List.length_range]; decide), (by rw [List.length_map, List.length_range]; decide), fun D hD => ?_⟩
    refine lc_acc walk_range hD (fun _ _ => trivial) (fun i => (((List.range 38).take i).filter bits).map fun j => V.int ((j : Nat) : Int)) rfl (fun i _ => ?_) ?_ ?_
    · rw [List.length_map]
      refine Nat.lt_of_le_of_lt (List.length_filter_le _ _) (Nat.lt_of_le_of_lt (by rw [List.length_take, List.length_range]; exact Nat.min_le_right _ _) (by show 38 < sizeLine; decide))
    · rintro i y H9 hi0 rfl s9 R S r1 r2
      have hi : i < 38 := by
        rw [List.length_map, List.length_range] at hi0
        exact hi0
      have tk : (List.range 38).take (i + 1) = (List.range 38).take i ++ [i] := by
        rw [List.take_add_one, List.getElem?_range hi]
        rfl
      refine ⟨rfl, _, rfl, _, rfl, f19, _, _, .bl (bits i), rfl, rfl, SqL.of (s9 _ _ w), at' i hi, _, rfl, ?_⟩
      cases eb : bits i with
      | true =>
        refine iteT ⟨_, rfl, r1 _ _ ?_ (Same.refl _)⟩
        show _ = _ ++ [V.int (0 + (i : Int))]
        rw [tk, List.filter_append, List.map_append, Int.zero_add]
        simp [eb]
      | false =>
        refine iteF (r2 _ ?_ (Same.refl _))
        rw [tk, List.filter_append, List.map_append]
        simp [eb]
    · intro H9 s9 hl
      refine k D H9 (s19.trans s9) ?_
      rw [hl]
      rw [List.length_map, List.length_range]
      rfl
theorem ok_law_under (T : Txt K mg) : FnOk P w K mg base CX0 1 T.f_law_under T.fd_law_under ["_law_error"] (sp_under K T.C_PartsError) := by
  refine T.F_law_under.ok sc_law_under (fun vs H Q E h => ?_) (fun cdv A outer s H vs Q E hr h => ?_)
  · obtain ⟨a, C, rfl, _⟩ := h
    rfl
  · obtain ⟨a, C, rfl, ea, KE, up, k⟩ := h
    refine ⟨_, (pss_cons (ps_set (i := 1) sc_law_under.nd rfl (Or.inl rfl) (pe_and (pe_callB (id := "isinstance") (r := rIsE K) call_isE (by rfl) T.z_isinstance (by decide +kernel) (pa_cons (pv 0) (pa_cons (pe_glob (v := .ref T.C_PartsError) rfl T.g_PartsError rfl) pa_nil))) (pe_one (pe_callB (id := "isinstance") (r := rIsE K) call_isE (by rfl) T.z_isinstance (by decide +kernel) (pa_cons (pv 0) (pa_cons (pe_bltn (v := .ty "ValueError") (u := .type "ValueError") (by rfl) T.z_ValueError (by decide +kernel) rfl) pa_nil))))))
        (pss_cons (ps_set (i := 2) sc_law_under.nd rfl (Or.inl rfl) (pe_or (pe_callB (id := "isinstance") (r := rIsE K) call_isE (by rfl) T.z_isinstance (by decide +kernel) (pa_cons (pv 0) (pa_cons (pe_bltn (v := .ty "KeyError") (u := .type "KeyError") (by rfl) T.z_KeyError (by decide +kernel) rfl) pa_nil))) (pe_or (pe_callB (id := "isinstance") (r := rIsE K) call_isE (by rfl) T.z_isinstance (by decide +kernel) (pa_cons (pv 0) (pa_cons (pe_bltn (v := .ty "IndexError") (u := .type "IndexError") (by rfl) T.z_IndexError (by decide +kernel) rfl) pa_nil))) (pe_one (pe_callB (id := "isinstance") (r := rIsE K) call_isE (by rfl) T.z_isinstance (by decide +kernel) (pa_cons (pv 0) (pa_cons (pe_bltn (v := .ty "TypeError") (u := .type "TypeError") (by rfl) T.z_TypeError (by decide +kernel) rfl) pa_nil)))))))
        (pss_one (ps_ret (pe_and (pv 1) (pe_one (pe_not (pv 2)))))))), ?_⟩
    unfold kitUp at up
    simp only [Bool.and_eq_true, decide_eq_true_iff] at up
    obtain ⟨u1, u2, u3, u4, u5⟩ := up
    refine ⟨_, rfl, a, C, _, _, true, rfl, .own _, ea, KE, u1, _, rfl, iteT ⟨_, rfl, a, C, _, _, true, rfl, .ty _, ea, KE, u2, ?_⟩⟩
    refine ⟨_, rfl, a, C, _, _, false, rfl, .ty _, ea, KE, u3, _, rfl, iteF ⟨_, rfl, a, C, _, _, false, rfl, .ty _, ea, KE, u4, _, rfl, iteF ⟨_, rfl, a, C, _, _, false, rfl, .ty _, ea, KE, u5, ?_⟩⟩⟩
    exact ⟨_, rfl, _, rfl, iteT ⟨_, rfl, _, rfl, k⟩⟩
theorem ok_law_made (T : Txt K mg) : FnOk P w K mg base CX0 3 T.f_law_made T.fd_law_made ["_law_thing"] (sp_made (Ps T)) := by
  refine T.F_law_made.ok sc_law_made (fun vs H Q E h => ?_) (fun cdv A outer s H vs Q E hr h => ?_)
  · obtain ⟨v, rfl, _⟩ := h
    rfl
  · obtain ⟨v, rfl, k⟩ := h
    refine ⟨_, (pss_cons (ps_set (i := 1) sc_law_made.nd rfl (Or.inl rfl) (pe_lst pa_nil))
        (pss_cons (ps_set (i := 1) sc_law_made.nd rfl (Or.inl rfl) (pe_op op_cat (pv 1) (pe_lst (pa_cons (pe_oexV T.x_InvalidName T.i_InvalidName T.t_InvalidName (ok_InvalidName_init T) hr T.b_InvalidName_init pass0 rfl T.g_InvalidName (pa_cons (pv 0) pa_nil)) (pa_cons (pe_oexV T.x_InvalidKey T.i_InvalidKey T.t_InvalidKey (ok_InvalidKey_init T) hr T.b_InvalidKey_init pass0 rfl T.g_InvalidKey (pa_cons (pv 0) pa_nil)) (pa_cons (pe_oexV T.x_InvalidSpan T.i_InvalidSpan T.t_InvalidSpan (ok_InvalidSpan_init T) hr T.b_InvalidSpan_init pass0 rfl T.g_InvalidSpan (pa_cons (pv 0) pa_nil)) (pa_cons (pe_oexV T.x_InvalidSpans T.i_InvalidSpans T.t_InvalidSpans (ok_InvalidSpans_init T) hr T.b_InvalidSpans_init pass0 rfl T.g_InvalidSpans (pa_cons (pv 0) pa_nil)) pa_nil)))))))
        (pss_cons (ps_set (i := 1) sc_law_made.nd rfl (Or.inl rfl) (pe_op op_cat (pv 1) (pe_lst (pa_cons (pe_oexV T.x_InvalidCatalog T.i_InvalidCatalog T.t_InvalidCatalog (ok_InvalidCatalog_init T) hr T.b_InvalidCatalog_init pass0 rfl T.g_InvalidCatalog (pa_cons (pv 0) pa_nil)) (pa_cons (pe_oexV T.x_InvalidChange T.i_InvalidChange T.t_InvalidChange (ok_InvalidChange_init T) hr T.b_InvalidChange_init pass0 rfl T.g_InvalidChange (pa_cons (pv 0) pa_nil)) (pa_cons (pe_oexV T.x_InvalidModes T.i_InvalidModes T.t_InvalidModes (ok_InvalidModes_init T) hr T.b_InvalidModes_init pass0 rfl T.g_InvalidModes (pa_cons (pv 0) pa_nil)) pa_nil))))))
        (pss_cons (ps_set (i := 1) sc_law_made.nd rfl (Or.inl rfl) (pe_op op_cat (pv 1) (pe_lst (pa_cons (pe_oexV T.x_InvalidClash T.i_InvalidClash T.t_InvalidClash (ok_InvalidClash_init T) hr T.b_InvalidClash_init pass0 rfl T.g_InvalidClash (pa_cons (pv 0) pa_nil)) (pa_cons (pe_oexV T.x_InvalidStrengths T.i_InvalidStrengths T.t_InvalidStrengths (ok_InvalidStrengths_init T) hr T.b_InvalidStrengths_init pass0 rfl T.g_InvalidStrengths (pa_cons (pv 0) pa_nil)) (pa_cons (pe_oexV T.x_InvalidProgram T.i_InvalidProgram T.t_InvalidProgram (ok_InvalidProgram_init T) hr T.b_InvalidProgram_init pass0 rfl T.g_InvalidProgram (pa_cons (pv 0) pa_nil)) pa_nil))))))
        (pss_cons (ps_set (i := 1) sc_law_made.nd rfl (Or.inl rfl) (pe_op op_cat (pv 1) (pe_lst (pa_cons (pe_oexV T.x_InvalidPrograms T.i_InvalidPrograms T.t_InvalidPrograms (ok_InvalidPrograms_init T) hr T.b_InvalidPrograms_init pass0 rfl T.g_InvalidPrograms (pa_cons (pv 0) pa_nil)) (pa_cons (pe_oexV T.x_InvalidProtocol T.i_InvalidProtocol T.t_InvalidProtocol (ok_InvalidProtocol_init T) hr T.b_InvalidProtocol_init pass0 rfl T.g_InvalidProtocol (pa_cons (pv 0) pa_nil)) (pa_cons (pe_oexV T.x_InvalidRows T.i_InvalidRows T.t_InvalidRows (ok_InvalidRows_init T) hr T.b_InvalidRows_init pass0 rfl T.g_InvalidRows (pa_cons (pv 0) pa_nil)) pa_nil))))))
        (pss_cons (ps_set (i := 1) sc_law_made.nd rfl (Or.inl rfl) (pe_op op_cat (pv 1) (pe_lst (pa_cons (pe_oexV T.x_InvalidSession T.i_InvalidSession T.t_InvalidSession (ok_InvalidSession_init T) hr T.b_InvalidSession_init pass0 rfl T.g_InvalidSession (pa_cons (pv 0) pa_nil)) (pa_cons (pe_oexV T.x_InvalidNumber T.i_InvalidNumber T.t_InvalidNumber (ok_InvalidNumber_init T) hr T.b_InvalidNumber_init pass0 rfl T.g_InvalidNumber (pa_cons (pv 0) pa_nil)) (pa_cons (pe_oexV T.x_InvalidWeaving T.i_InvalidWeaving T.t_InvalidWeaving (ok_InvalidWeaving_init T) hr T.b_InvalidWeaving_init pass0 rfl T.g_InvalidWeaving (pa_cons (pv 0) pa_nil)) pa_nil))))))
        (pss_cons (ps_set (i := 1) sc_law_made.nd rfl (Or.inl rfl) (pe_op op_cat (pv 1) (pe_lst (pa_cons (pe_oexV T.x_InvalidStore T.i_InvalidStore T.t_InvalidStore (ok_InvalidStore_init T) hr T.b_InvalidStore_init pass0 rfl T.g_InvalidStore (pa_cons (pv 0) pa_nil)) (pa_cons (pe_oexV T.x_InvalidScene T.i_InvalidScene T.t_InvalidScene (ok_InvalidScene_init T) hr T.b_InvalidScene_init pass0 rfl T.g_InvalidScene (pa_cons (pv 0) pa_nil)) (pa_cons (pe_oexV T.x_InvalidLog T.i_InvalidLog T.t_InvalidLog (ok_InvalidLog_init T) hr T.b_InvalidLog_init pass0 rfl T.g_InvalidLog (pa_cons (pv 0) pa_nil)) pa_nil))))))
        (pss_cons (ps_set (i := 1) sc_law_made.nd rfl (Or.inl rfl) (pe_op op_cat (pv 1) (pe_lst (pa_cons (pe_oexV T.x_InvalidText T.i_InvalidText T.t_InvalidText (ok_InvalidText_init T) hr T.b_InvalidText_init pass0 rfl T.g_InvalidText (pa_cons (pv 0) pa_nil)) (pa_cons (pe_oexV T.x_InvalidCommand T.i_InvalidCommand T.t_InvalidCommand (ok_InvalidCommand_init T) hr T.b_InvalidCommand_init pass0 rfl T.g_InvalidCommand (pa_cons (pv 0) pa_nil)) (pa_cons (pe_oexV T.x_Duplicate T.i_Duplicate T.t_Duplicate (ok_Duplicate_init T) hr T.b_Duplicate_init pass0 rfl T.g_Duplicate (pa_cons (pv 0) pa_nil)) pa_nil))))))
        (pss_cons (ps_set (i := 1) sc_law_made.nd rfl (Or.inl rfl) (pe_op op_cat (pv 1) (pe_lst (pa_cons (pe_oexV T.x_UnknownPart T.i_UnknownPart T.t_UnknownPart (ok_UnknownPart_init T) hr T.b_UnknownPart_init pass0 rfl T.g_UnknownPart (pa_cons (pv 0) pa_nil)) (pa_cons (pe_oexV T.x_UnknownMode T.i_UnknownMode T.t_UnknownMode (ok_UnknownMode_init T) hr T.b_UnknownMode_init pass0 rfl T.g_UnknownMode (pa_cons (pv 0) pa_nil)) (pa_cons (pe_oexV T.x_UnknownEntry T.i_UnknownEntry T.t_UnknownEntry (ok_UnknownEntry_init T) hr T.b_UnknownEntry_init pass0 rfl T.g_UnknownEntry (pa_cons (pv 0) pa_nil)) (pa_cons (pe_oexV T.x_NameTaken T.i_NameTaken T.t_NameTaken (ok_NameTaken_init T) hr T.b_NameTaken_init pass0 rfl T.g_NameTaken (pa_cons (pv 0) pa_nil)) pa_nil)))))))
        (pss_cons (ps_set (i := 1) sc_law_made.nd rfl (Or.inl rfl) (pe_op op_cat (pv 1) (pe_lst (pa_cons (pe_oexV T.x_Overlap T.i_Overlap T.t_Overlap (ok_Overlap_init T) hr T.b_Overlap_init pass0 rfl T.g_Overlap (pa_cons (pv 0) pa_nil)) (pa_cons (pe_oexV T.x_NotInside T.i_NotInside T.t_NotInside (ok_NotInside_init T) hr T.b_NotInside_init pass0 rfl T.g_NotInside (pa_cons (pv 0) pa_nil)) (pa_cons (pe_oexV T.x_NotNeighbours T.i_NotNeighbours T.t_NotNeighbours (ok_NotNeighbours_init T) hr T.b_NotNeighbours_init pass0 rfl T.g_NotNeighbours (pa_cons (pv 0) pa_nil)) (pa_cons (pe_oexV T.x_NoProgram T.i_NoProgram T.t_NoProgram (ok_NoProgram_init T) hr T.b_NoProgram_init pass0 rfl T.g_NoProgram (pa_cons (pv 0) pa_nil)) pa_nil)))))))
        (pss_cons (ps_set (i := 1) sc_law_made.nd rfl (Or.inl rfl) (pe_op op_cat (pv 1) (pe_lst (pa_cons (pe_oexV T.x_TooMany T.i_TooMany T.t_TooMany (ok_TooMany_init T) hr T.b_TooMany_init pass0 rfl T.g_TooMany (pa_cons (pv 0) pa_nil)) (pa_cons (pe_oexV T.x_Ended T.i_Ended T.t_Ended (ok_Ended_init T) hr T.b_Ended_init pass0 rfl T.g_Ended (pa_cons (pv 0) pa_nil)) (pa_cons (pe_oexV T.x_Waiting T.i_Waiting T.t_Waiting (ok_Waiting_init T) hr T.b_Waiting_init pass0 rfl T.g_Waiting (pa_cons (pv 0) pa_nil)) (pa_cons (pe_excV0 PySem.F.excBase_ValueError T.q_NothingBad T.g_NothingBad T.kp_NothingBad rfl) (pa_cons (pe_excV0 PySem.F.excBase_ValueError T.q_NotRight T.g_NotRight T.kp_NotRight rfl) pa_nil))))))))
        (pss_cons (ps_set (i := 1) sc_law_made.nd rfl (Or.inl rfl) (pe_op op_cat (pv 1) (pe_lst (pa_cons (pe_excV0 PySem.F.excBase_ValueError T.q_NoStore T.g_NoStore T.kp_NoStore rfl) (pa_cons (pe_excV0 PySem.F.excBase_ValueError T.q_NothingToUndo T.g_NothingToUndo T.kp_NothingToUndo rfl) (pa_cons (pe_excV0 PySem.F.excBase_ValueError T.q_NothingToRedo T.g_NothingToRedo T.kp_NothingToRedo rfl) pa_nil))))))
        (pss_one (ps_ret (pv 1))))))))))))))), ?_⟩
    refine ⟨Nat.zero_le _, fun f0 h0 => ?_⟩
    have s0 := same_new (o := .lst []) h0
    have w0 : (upd H f0 (.lst [])) f0 = some (.lst ([] : List V)) := upd_same
    have x0 : AllX v (upd H f0 (.lst [])) [] [] := .nil
    refine ⟨_, rfl, ?_⟩
    refine ⟨_, rfl, (by show 1 ≤ 1000; decide), fun a0 na0 => ⟨a0, v, rfl, T.x_InvalidName, T.n_InvalidName, upd_same, fun dx0 hdx0 ne0 => ⟨rfl, ?_⟩⟩⟩
    obtain ⟨sm0, mx0⟩ := made_x (C := T.C_InvalidName) (f := "value") (v := v) na0 hdx0 ne0
    refine ⟨_, rfl, (by show 1 ≤ 1000; decide), fun a1 na1 => ⟨a1, v, rfl, T.x_InvalidKey, T.n_InvalidKey, upd_same, fun dx1 hdx1 ne1 => ⟨rfl, ?_⟩⟩⟩
    obtain ⟨sm1, mx1⟩ := made_x (C := T.C_InvalidKey) (f := "value") (v := v) na1 hdx1 ne1
    refine ⟨_, rfl, (by show 1 ≤ 1000; decide), fun a2 na2 => ⟨a2, v, rfl, T.x_InvalidSpan, T.n_InvalidSpan, upd_same, fun dx2 hdx2 ne2 => ⟨rfl, ?_⟩⟩⟩
    obtain ⟨sm2, mx2⟩ := made_x (C := T.C_InvalidSpan) (f := "value") (v := v) na2 hdx2 ne2
    refine ⟨_, rfl, (by show 1 ≤ 1000; decide), fun a3 na3 => ⟨a3, v, rfl, T.x_InvalidSpans, T.n_InvalidSpans, upd_same, fun dx3 hdx3 ne3 => ⟨rfl, ?_⟩⟩⟩
    obtain ⟨sm3, mx3⟩ := made_x (C := T.C_InvalidSpans) (f := "value") (v := v) na3 hdx3 ne3
    refine ⟨(by show 4 ≤ sizeLine; decide), fun l0 hl0 => ?_⟩
    have sl0 := same_new (o := .lst [.ref a0, .ref a1, .ref a2, .ref a3]) hl0
    have sr0 := sm0.trans (sm1.trans (sm2.trans (sm3.trans (sl0))))
    have xr0 : AllX v _ [a0, a1, a2, a3] [(T.C_InvalidName, some ("value" : Str)), (T.C_InvalidKey, some ("value" : Str)), (T.C_InvalidSpan, some ("value" : Str)), (T.C_InvalidSpans, some ("value" : Str))] := .fld (mx0.mono (sm1.trans (sm2.trans (sm3.trans (sl0))))) (.fld (mx1.mono (sm2.trans (sm3.trans (sl0)))) (.fld (mx2.mono (sm3.trans (sl0))) (.fld (mx3.mono (sl0)) (.nil))))
    refine ⟨f0, l0, _, _, rfl, rfl, sr0 _ _ w0, upd_same, (by show 4 ≤ sizeLine; decide), fun f1 h1 => ?_⟩
    obtain ⟨G1, eG1, sb0, v1⟩ := upd_known (o := .lst ([] ++ [.ref a0, .ref a1, .ref a2, .ref a3])) h1
    rw [← eG1]
    have s1 := s0.trans (sr0.trans sb0)
    have x1 := ((x0.mono sr0).app xr0).mono sb0
    have w1 : G1 f1 = some (HO.lst [.ref a0, .ref a1, .ref a2, .ref a3]) := v1
    refine ⟨_, rfl, ?_⟩
    refine ⟨_, rfl, (by show 1 ≤ 1000; decide), fun a4 na4 => ⟨a4, v, rfl, T.x_InvalidCatalog, T.n_InvalidCatalog, upd_same, fun dx4 hdx4 ne4 => ⟨rfl, ?_⟩⟩⟩
    obtain ⟨sm4, mx4⟩ := made_x (C := T.C_InvalidCatalog) (f := "value") (v := v) na4 hdx4 ne4
    refine ⟨_, rfl, (by show 1 ≤ 1000; decide), fun a5 na5 => ⟨a5, v, rfl, T.x_InvalidChange, T.n_InvalidChange, upd_same, fun dx5 hdx5 ne5 => ⟨rfl, ?_⟩⟩⟩
    obtain ⟨sm5, mx5⟩ := made_x (C := T.C_InvalidChange) (f := "value") (v := v) na5 hdx5 ne5
    refine ⟨_, rfl, (by show 1 ≤ 1000; decide), fun a6 na6 => ⟨a6, v, rfl, T.x_InvalidModes, T.n_InvalidModes, upd_same, fun dx6 hdx6 ne6 => ⟨rfl, ?_⟩⟩⟩
    obtain ⟨sm6, mx6⟩ := made_x (C := T.C_InvalidModes) (f := "value") (v := v) na6 hdx6 ne6
    refine ⟨(by show 3 ≤ sizeLine; decide), fun l1 hl1 => ?_⟩
    have sl1 := same_new (o := .lst [.ref a4, .ref a5, .ref a6]) hl1
    have sr1 := sm4.trans (sm5.trans (sm6.trans (sl1)))
    have xr1 : AllX v _ [a4, a5, a6] [(T.C_InvalidCatalog, some ("value" : Str)), (T.C_InvalidChange, some ("value" : Str)), (T.C_InvalidModes, some ("value" : Str))] := .fld (mx4.mono (sm5.trans (sm6.trans (sl1)))) (.fld (mx5.mono (sm6.trans (sl1))) (.fld (mx6.mono (sl1)) (.nil)))
    refine ⟨f1, l1, _, _, rfl, rfl, sr1 _ _ w1, upd_same, (by show 7 ≤ sizeLine; decide), fun f2 h2 => ?_⟩
    obtain ⟨G2, eG2, sb1, v2⟩ := upd_known (o := .lst ([.ref a0, .ref a1, .ref a2, .ref a3] ++ [.ref a4, .ref a5, .ref a6])) h2
    rw [← eG2]
    have s2 := s1.trans (sr1.trans sb1)
    have x2 := ((x1.mono sr1).app xr1).mono sb1
    have w2 : G2 f2 = some (HO.lst [.ref a0, .ref a1, .ref a2, .ref a3, .ref a4, .ref a5, .ref a6]) := v2
    refine ⟨_, rfl, ?_⟩
    refine ⟨_, rfl, (by show 1 ≤ 1000; decide), fun a7 na7 => ⟨a7, v, rfl, T.x_InvalidClash, T.n_InvalidClash, upd_same, fun dx7 hdx7 ne7 => ⟨rfl, ?_⟩⟩⟩
    obtain ⟨sm7, mx7⟩ := made_x (C := T.C_InvalidClash) (f := "value") (v := v) na7 hdx7 ne7
    refine ⟨_, rfl, (by show 1 ≤ 1000; decide), fun a8 na8 => ⟨a8, v, rfl, T.x_InvalidStrengths, T.n_InvalidStrengths, upd_same, fun dx8 hdx8 ne8 => ⟨rfl, ?_⟩⟩⟩
    obtain ⟨sm8, mx8⟩ := made_x (C := T.C_InvalidStrengths) (f := "value") (v := v) na8 hdx8 ne8
    refine ⟨_, rfl, (by show 1 ≤ 1000; decide), fun a9 na9 => ⟨a9, v, rfl, T.x_InvalidProgram, T.n_InvalidProgram, upd_same, fun dx9 hdx9 ne9 => ⟨rfl, ?_⟩⟩⟩
    obtain ⟨sm9, mx9⟩ := made_x (C := T.C_InvalidProgram) (f := "value") (v := v) na9 hdx9 ne9
    refine ⟨(by show 3 ≤ sizeLine; decide), fun l2 hl2 => ?_⟩
    have sl2 := same_new (o := .lst [.ref a7, .ref a8, .ref a9]) hl2
    have sr2 := sm7.trans (sm8.trans (sm9.trans (sl2)))
    have xr2 : AllX v _ [a7, a8, a9] [(T.C_InvalidClash, some ("value" : Str)), (T.C_InvalidStrengths, some ("value" : Str)), (T.C_InvalidProgram, some ("value" : Str))] := .fld (mx7.mono (sm8.trans (sm9.trans (sl2)))) (.fld (mx8.mono (sm9.trans (sl2))) (.fld (mx9.mono (sl2)) (.nil)))
    refine ⟨f2, l2, _, _, rfl, rfl, sr2 _ _ w2, upd_same, (by show 10 ≤ sizeLine; decide), fun f3 h3 => ?_⟩
    obtain ⟨G3, eG3, sb2, v3⟩ := upd_known (o := .lst ([.ref a0, .ref a1, .ref a2, .ref a3, .ref a4, .ref a5, .ref a6] ++ [.ref a7, .ref a8, .ref a9])) h3
    rw [← eG3]
    have s3 := s2.trans (sr2.trans sb2)
    have x3 := ((x2.mono sr2).app xr2).mono sb2
    have w3 : G3 f3 = some (HO.lst [.ref a0, .ref a1, .ref a2, .ref a3, .ref a4, .ref a5, .ref a6, .ref a7, .ref a8, .ref a9]) := v3
    refine ⟨_, rfl, ?_⟩
    refine ⟨_, rfl, (by show 1 ≤ 1000; decide), fun a10 na10 => ⟨a10, v, rfl, T.x_InvalidPrograms, T.n_InvalidPrograms, upd_same, fun dx10 hdx10 ne10 => ⟨rfl, ?_⟩⟩⟩
    obtain ⟨sm10, mx10⟩ := made_x (C := T.C_InvalidPrograms) (f := "value") (v := v) na10 hdx10 ne10
    refine ⟨_, rfl, (by show 1 ≤ 1000; decide), fun a11 na11 => ⟨a11, v, rfl, T.x_InvalidProtocol, T.n_InvalidProtocol, upd_same, fun dx11 hdx11 ne11 => ⟨rfl, ?_⟩⟩⟩
    obtain ⟨sm11, mx11⟩ := made_x (C := T.C_InvalidProtocol) (f := "value") (v := v) na11 hdx11 ne11
    refine ⟨_, rfl, (by show 1 ≤ 1000; decide), fun a12 na12 => ⟨a12, v, rfl, T.x_InvalidRows, T.n_InvalidRows, upd_same, fun dx12 hdx12 ne12 => ⟨rfl, ?_⟩⟩⟩
    obtain ⟨sm12, mx12⟩ := made_x (C := T.C_InvalidRows) (f := "value") (v := v) na12 hdx12 ne12
    refine ⟨(by show 3 ≤ sizeLine; decide), fun l3 hl3 => ?_⟩
    have sl3 := same_new (o := .lst [.ref a10, .ref a11, .ref a12]) hl3
    have sr3 := sm10.trans (sm11.trans (sm12.trans (sl3)))
    have xr3 : AllX v _ [a10, a11, a12] [(T.C_InvalidPrograms, some ("value" : Str)), (T.C_InvalidProtocol, some ("value" : Str)), (T.C_InvalidRows, some ("value" : Str))] := .fld (mx10.mono (sm11.trans (sm12.trans (sl3)))) (.fld (mx11.mono (sm12.trans (sl3))) (.fld (mx12.mono (sl3)) (.nil)))
    refine ⟨f3, l3, _, _, rfl, rfl, sr3 _ _ w3, upd_same, (by show 13 ≤ sizeLine; decide), fun f4 h4 => ?_⟩
    obtain ⟨G4, eG4, sb3, v4⟩ := upd_known (o := .lst ([.ref a0, .ref a1, .ref a2, .ref a3, .ref a4, .ref a5, .ref a6, .ref a7, .ref a8, .ref a9] ++ [.ref a10, .ref a11, .ref a12])) h4
    rw [← eG4]
    have s4 := s3.trans (sr3.trans sb3)
    have x4 := ((x3.mono sr3).app xr3).mono sb3
    have w4 : G4 f4 = some (HO.lst [.ref a0, .ref a1, .ref a2, .ref a3, .ref a4, .ref a5, .ref a6, .ref a7, .ref a8, .ref a9, .ref a10, .ref a11, .ref a12]) := v4
    refine ⟨_, rfl, ?_⟩
    refine ⟨_, rfl, (by show 1 ≤ 1000; decide), fun a13 na13 => ⟨a13, v, rfl, T.x_InvalidSession, T.n_InvalidSession, upd_same, fun dx13 hdx13 ne13 => ⟨rfl, ?_⟩⟩⟩
    obtain ⟨sm13, mx13⟩ := made_x (C := T.C_InvalidSession) (f := "value") (v := v) na13 hdx13 ne13
    refine ⟨_, rfl, (by show 1 ≤ 1000; decide), fun a14 na14 => ⟨a14, v, rfl, T.x_InvalidNumber, T.n_InvalidNumber, upd_same, fun dx14 hdx14 ne14 => ⟨rfl, ?_⟩⟩⟩
    obtain ⟨sm14, mx14⟩ := made_x (C := T.C_InvalidNumber) (f := "value") (v := v) na14 hdx14 ne14
    refine ⟨_, rfl, (by show 1 ≤ 1000; decide), fun a15 na15 => ⟨a15, v, rfl, T.x_InvalidWeaving, T.n_InvalidWeaving, upd_same, fun dx15 hdx15 ne15 => ⟨rfl, ?_⟩⟩⟩
    obtain ⟨sm15, mx15⟩ := made_x (C := T.C_InvalidWeaving) (f := "value") (v := v) na15 hdx15 ne15
    refine ⟨(by show 3 ≤ sizeLine; decide), fun l4 hl4 => ?_⟩
    have sl4 := same_new (o := .lst [.ref a13, .ref a14, .ref a15]) hl4
    have sr4 := sm13.trans (sm14.trans (sm15.trans (sl4)))
    have xr4 : AllX v _ [a13, a14, a15] [(T.C_InvalidSession, some ("value" : Str)), (T.C_InvalidNumber, some ("value" : Str)), (T.C_InvalidWeaving, some ("value" : Str))] := .fld (mx13.mono (sm14.trans (sm15.trans (sl4)))) (.fld (mx14.mono (sm15.trans (sl4))) (.fld (mx15.mono (sl4)) (.nil)))
    refine ⟨f4, l4, _, _, rfl, rfl, sr4 _ _ w4, upd_same, (by show 16 ≤ sizeLine; decide), fun f5 h5 => ?_⟩
    obtain ⟨G5, eG5, sb4, v5⟩ := upd_known (o := .lst ([.ref a0, .ref a1, .ref a2, .ref a3, .ref a4, .ref a5, .ref a6, .ref a7, .ref a8, .ref a9, .ref a10, .ref a11, .ref a12] ++ [.ref a13, .ref a14, .ref a15])) h5
    rw [← eG5]
    have s5 := s4.trans (sr4.trans sb4)
    have x5 := ((x4.mono sr4).app xr4).mono sb4
    have w5 : G5 f5 = some (HO.lst [.ref a0, .ref a1, .ref a2, .ref a3, .ref a4, .ref a5, .ref a6, .ref a7, .ref a8, .ref a9, .ref a10, .ref a11, .ref a12, .ref a13, .ref a14, .ref a15]) := v5
    refine ⟨_, rfl, ?_⟩
    refine ⟨_, rfl, (by show 1 ≤ 1000; decide), fun a16 na16 => ⟨a16, v, rfl, T.x_InvalidStore, T.n_InvalidStore, upd_same, fun dx16 hdx16 ne16 => ⟨rfl, ?_⟩⟩⟩
    obtain ⟨sm16, mx16⟩ := made_x (C := T.C_InvalidStore) (f := "value") (v := v) na16 hdx16 ne16
    refine ⟨_, rfl, (by show 1 ≤ 1000; decide), fun a17 na17 => ⟨a17, v, rfl, T.x_InvalidScene, T.n_InvalidScene, upd_same, fun dx17 hdx17 ne17 => ⟨rfl, ?_⟩⟩⟩
    obtain ⟨sm17, mx17⟩ := made_x (C := T.C_InvalidScene) (f := "value") (v := v) na17 hdx17 ne17
    refine ⟨_, rfl, (by show 1 ≤ 1000; decide), fun a18 na18 => ⟨a18, v, rfl, T.x_InvalidLog, T.n_InvalidLog, upd_same, fun dx18 hdx18 ne18 => ⟨rfl, ?_⟩⟩⟩
    obtain ⟨sm18, mx18⟩ := made_x (C := T.C_InvalidLog) (f := "value") (v := v) na18 hdx18 ne18
    refine ⟨(by show 3 ≤ sizeLine; decide), fun l5 hl5 => ?_⟩
    have sl5 := same_new (o := .lst [.ref a16, .ref a17, .ref a18]) hl5
    have sr5 := sm16.trans (sm17.trans (sm18.trans (sl5)))
    have xr5 : AllX v _ [a16, a17, a18] [(T.C_InvalidStore, some ("value" : Str)), (T.C_InvalidScene, some ("value" : Str)), (T.C_InvalidLog, some ("value" : Str))] := .fld (mx16.mono (sm17.trans (sm18.trans (sl5)))) (.fld (mx17.mono (sm18.trans (sl5))) (.fld (mx18.mono (sl5)) (.nil)))
    refine ⟨f5, l5, _, _, rfl, rfl, sr5 _ _ w5, upd_same, (by show 19 ≤ sizeLine; decide), fun f6 h6 => ?_⟩
    obtain ⟨G6, eG6, sb5, v6⟩ := upd_known (o := .lst ([.ref a0, .ref a1, .ref a2, .ref a3, .ref a4, .ref a5, .ref a6, .ref a7, .ref a8, .ref a9, .ref a10, .ref a11, .ref a12, .ref a13, .ref a14, .ref a15] ++ [.ref a16, .ref a17, .ref a18])) h6
    rw [← eG6]
    have s6 := s5.trans (sr5.trans sb5)
    have x6 := ((x5.mono sr5).app xr5).mono sb5
    have w6 : G6 f6 = some (HO.lst [.ref a0, .ref a1, .ref a2, .ref a3, .ref a4, .ref a5, .ref a6, .ref a7, .ref a8, .ref a9, .ref a10, .ref a11, .ref a12, .ref a13, .ref a14, .ref a15, .ref a16, .ref a17, .ref a18]) := v6
    refine ⟨_, rfl, ?_⟩
    refine ⟨_, rfl, (by show 1 ≤ 1000; decide), fun a19 na19 => ⟨a19, v, rfl, T.x_InvalidText, T.n_InvalidText, upd_same, fun dx19 hdx19 ne19 => ⟨rfl, ?_⟩⟩⟩
    obtain ⟨sm19, mx19⟩ := made_x (C := T.C_InvalidText) (f := "value") (v := v) na19 hdx19 ne19
    refine ⟨_, rfl, (by show 1 ≤ 1000; decide), fun a20 na20 => ⟨a20, v, rfl, T.x_InvalidCommand, T.n_InvalidCommand, upd_same, fun dx20 hdx20 ne20 => ⟨rfl, ?_⟩⟩⟩
    obtain ⟨sm20, mx20⟩ := made_x (C := T.C_InvalidCommand) (f := "value") (v := v) na20 hdx20 ne20
    refine ⟨_, rfl, (by show 1 ≤ 1000; decide), fun a21 na21 => ⟨a21, v, rfl, T.x_Duplicate, T.n_Duplicate, upd_same, fun dx21 hdx21 ne21 => ⟨rfl, ?_⟩⟩⟩
    obtain ⟨sm21, mx21⟩ := made_x (C := T.C_Duplicate) (f := "name") (v := v) na21 hdx21 ne21
    refine ⟨(by show 3 ≤ sizeLine; decide), fun l6 hl6 => ?_⟩
    have sl6 := same_new (o := .lst [.ref a19, .ref a20, .ref a21]) hl6
    have sr6 := sm19.trans (sm20.trans (sm21.trans (sl6)))
    have xr6 : AllX v _ [a19, a20, a21] [(T.C_InvalidText, some ("value" : Str)), (T.C_InvalidCommand, some ("value" : Str)), (T.C_Duplicate, some ("name" : Str))] := .fld (mx19.mono (sm20.trans (sm21.trans (sl6)))) (.fld (mx20.mono (sm21.trans (sl6))) (.fld (mx21.mono (sl6)) (.nil)))
    refine ⟨f6, l6, _, _, rfl, rfl, sr6 _ _ w6, upd_same, (by show 22 ≤ sizeLine; decide), fun f7 h7 => ?_⟩
    obtain ⟨G7, eG7, sb6, v7⟩ := upd_known (o := .lst ([.ref a0, .ref a1, .ref a2, .ref a3, .ref a4, .ref a5, .ref a6, .ref a7, .ref a8, .ref a9, .ref a10, .ref a11, .ref a12, .ref a13, .ref a14, .ref a15, .ref a16, .ref a17, .ref a18] ++ [.ref a19, .ref a20, .ref a21])) h7
    rw [← eG7]
    have s7 := s6.trans (sr6.trans sb6)
    have x7 := ((x6.mono sr6).app xr6).mono sb6
    have w7 : G7 f7 = some (HO.lst [.ref a0, .ref a1, .ref a2, .ref a3, .ref a4, .ref a5, .ref a6, .ref a7, .ref a8, .ref a9, .ref a10, .ref a11, .ref a12, .ref a13, .ref a14, .ref a15, .ref a16, .ref a17, .ref a18, .ref a19, .ref a20, .ref a21]) := v7
    refine ⟨_, rfl, ?_⟩
    refine ⟨_, rfl, (by show 1 ≤ 1000; decide), fun a22 na22 => ⟨a22, v, rfl, T.x_UnknownPart, T.n_UnknownPart, upd_same, fun dx22 hdx22 ne22 => ⟨rfl, ?_⟩⟩⟩
    obtain ⟨sm22, mx22⟩ := made_x (C := T.C_UnknownPart) (f := "name") (v := v) na22 hdx22 ne22
    refine ⟨_, rfl, (by show 1 ≤ 1000; decide), fun a23 na23 => ⟨a23, v, rfl, T.x_UnknownMode, T.n_UnknownMode, upd_same, fun dx23 hdx23 ne23 => ⟨rfl, ?_⟩⟩⟩
    obtain ⟨sm23, mx23⟩ := made_x (C := T.C_UnknownMode) (f := "name") (v := v) na23 hdx23 ne23
    refine ⟨_, rfl, (by show 1 ≤ 1000; decide), fun a24 na24 => ⟨a24, v, rfl, T.x_UnknownEntry, T.n_UnknownEntry, upd_same, fun dx24 hdx24 ne24 => ⟨rfl, ?_⟩⟩⟩
    obtain ⟨sm24, mx24⟩ := made_x (C := T.C_UnknownEntry) (f := "name") (v := v) na24 hdx24 ne24
    refine ⟨_, rfl, (by show 1 ≤ 1000; decide), fun a25 na25 => ⟨a25, v, rfl, T.x_NameTaken, T.n_NameTaken, upd_same, fun dx25 hdx25 ne25 => ⟨rfl, ?_⟩⟩⟩
    obtain ⟨sm25, mx25⟩ := made_x (C := T.C_NameTaken) (f := "name") (v := v) na25 hdx25 ne25
    refine ⟨(by show 4 ≤ sizeLine; decide), fun l7 hl7 => ?_⟩
    have sl7 := same_new (o := .lst [.ref a22, .ref a23, .ref a24, .ref a25]) hl7
    have sr7 := sm22.trans (sm23.trans (sm24.trans (sm25.trans (sl7))))
    have xr7 : AllX v _ [a22, a23, a24, a25] [(T.C_UnknownPart, some ("name" : Str)), (T.C_UnknownMode, some ("name" : Str)), (T.C_UnknownEntry, some ("name" : Str)), (T.C_NameTaken, some ("name" : Str))] := .fld (mx22.mono (sm23.trans (sm24.trans (sm25.trans (sl7))))) (.fld (mx23.mono (sm24.trans (sm25.trans (sl7)))) (.fld (mx24.mono (sm25.trans (sl7))) (.fld (mx25.mono (sl7)) (.nil))))
    refine ⟨f7, l7, _, _, rfl, rfl, sr7 _ _ w7, upd_same, (by show 26 ≤ sizeLine; decide), fun f8 h8 => ?_⟩
    obtain ⟨G8, eG8, sb7, v8⟩ := upd_known (o := .lst ([.ref a0, .ref a1, .ref a2, .ref a3, .ref a4, .ref a5, .ref a6, .ref a7, .ref a8, .ref a9, .ref a10, .ref a11, .ref a12, .ref a13, .ref a14, .ref a15, .ref a16, .ref a17, .ref a18, .ref a19, .ref a20, .ref a21] ++ [.ref a22, .ref a23, .ref a24, .ref a25])) h8
    rw [← eG8]
    have s8 := s7.trans (sr7.trans sb7)
    have x8 := ((x7.mono sr7).app xr7).mono sb7
    have w8 : G8 f8 = some (HO.lst [.ref a0, .ref a1, .ref a2, .ref a3, .ref a4, .ref a5, .ref a6, .ref a7, .ref a8, .ref a9, .ref a10, .ref a11, .ref a12, .ref a13, .ref a14, .ref a15, .ref a16, .ref a17, .ref a18, .ref a19, .ref a20, .ref a21, .ref a22, .ref a23, .ref a24, .ref a25]) := v8
    refine ⟨_, rfl, ?_⟩
    refine ⟨_, rfl, (by show 1 ≤ 1000; decide), fun a26 na26 => ⟨a26, v, rfl, T.x_Overlap, T.n_Overlap, upd_same, fun dx26 hdx26 ne26 => ⟨rfl, ?_⟩⟩⟩
    obtain ⟨sm26, mx26⟩ := made_x (C := T.C_Overlap) (f := "name") (v := v) na26 hdx26 ne26
    refine ⟨_, rfl, (by show 1 ≤ 1000; decide), fun a27 na27 => ⟨a27, v, rfl, T.x_NotInside, T.n_NotInside, upd_same, fun dx27 hdx27 ne27 => ⟨rfl, ?_⟩⟩⟩
    obtain ⟨sm27, mx27⟩ := made_x (C := T.C_NotInside) (f := "at") (v := v) na27 hdx27 ne27
    refine ⟨_, rfl, (by show 1 ≤ 1000; decide), fun a28 na28 => ⟨a28, v, rfl, T.x_NotNeighbours, T.n_NotNeighbours, upd_same, fun dx28 hdx28 ne28 => ⟨rfl, ?_⟩⟩⟩
    obtain ⟨sm28, mx28⟩ := made_x (C := T.C_NotNeighbours) (f := "name") (v := v) na28 hdx28 ne28
    refine ⟨_, rfl, (by show 1 ≤ 1000; decide), fun a29 na29 => ⟨a29, v, rfl, T.x_NoProgram, T.n_NoProgram, upd_same, fun dx29 hdx29 ne29 => ⟨rfl, ?_⟩⟩⟩
    obtain ⟨sm29, mx29⟩ := made_x (C := T.C_NoProgram) (f := "kind") (v := v) na29 hdx29 ne29
    refine ⟨(by show 4 ≤ sizeLine; decide), fun l8 hl8 => ?_⟩
    have sl8 := same_new (o := .lst [.ref a26, .ref a27, .ref a28, .ref a29]) hl8
    have sr8 := sm26.trans (sm27.trans (sm28.trans (sm29.trans (sl8))))
    have xr8 : AllX v _ [a26, a27, a28, a29] [(T.C_Overlap, some ("name" : Str)), (T.C_NotInside, some ("at" : Str)), (T.C_NotNeighbours, some ("name" : Str)), (T.C_NoProgram, some ("kind" : Str))] := .fld (mx26.mono (sm27.trans (sm28.trans (sm29.trans (sl8))))) (.fld (mx27.mono (sm28.trans (sm29.trans (sl8)))) (.fld (mx28.mono (sm29.trans (sl8))) (.fld (mx29.mono (sl8)) (.nil))))
    refine ⟨f8, l8, _, _, rfl, rfl, sr8 _ _ w8, upd_same, (by show 30 ≤ sizeLine; decide), fun f9 h9 => ?_⟩
    obtain ⟨G9, eG9, sb8, v9⟩ := upd_known (o := .lst ([.ref a0, .ref a1, .ref a2, .ref a3, .ref a4, .ref a5, .ref a6, .ref a7, .ref a8, .ref a9, .ref a10, .ref a11, .ref a12, .ref a13, .ref a14, .ref a15, .ref a16, .ref a17, .ref a18, .ref a19, .ref a20, .ref a21, .ref a22, .ref a23, .ref a24, .ref a25] ++ [.ref a26, .ref a27, .ref a28, .ref a29])) h9
    rw [← eG9]
    have s9 := s8.trans (sr8.trans sb8)
    have x9 := ((x8.mono sr8).app xr8).mono sb8
    have w9 : G9 f9 = some (HO.lst [.ref a0, .ref a1, .ref a2, .ref a3, .ref a4, .ref a5, .ref a6, .ref a7, .ref a8, .ref a9, .ref a10, .ref a11, .ref a12, .ref a13, .ref a14, .ref a15, .ref a16, .ref a17, .ref a18, .ref a19, .ref a20, .ref a21, .ref a22, .ref a23, .ref a24, .ref a25, .ref a26, .ref a27, .ref a28, .ref a29]) := v9
    refine ⟨_, rfl, ?_⟩
    refine ⟨_, rfl, (by show 1 ≤ 1000; decide), fun a30 na30 => ⟨a30, v, rfl, T.x_TooMany, T.n_TooMany, upd_same, fun dx30 hdx30 ne30 => ⟨rfl, ?_⟩⟩⟩
    obtain ⟨sm30, mx30⟩ := made_x (C := T.C_TooMany) (f := "bound") (v := v) na30 hdx30 ne30
    refine ⟨_, rfl, (by show 1 ≤ 1000; decide), fun a31 na31 => ⟨a31, v, rfl, T.x_Ended, T.n_Ended, upd_same, fun dx31 hdx31 ne31 => ⟨rfl, ?_⟩⟩⟩
    obtain ⟨sm31, mx31⟩ := made_x (C := T.C_Ended) (f := "number") (v := v) na31 hdx31 ne31
    refine ⟨_, rfl, (by show 1 ≤ 1000; decide), fun a32 na32 => ⟨a32, v, rfl, T.x_Waiting, T.n_Waiting, upd_same, fun dx32 hdx32 ne32 => ⟨rfl, ?_⟩⟩⟩
    obtain ⟨sm32, mx32⟩ := made_x (C := T.C_Waiting) (f := "number") (v := v) na32 hdx32 ne32
    refine fun a33 na33 => ?_
    have sm33 := same_new (o := ExO (.ref T.C_NothingBad) a33) na33
    refine fun a34 na34 => ?_
    have sm34 := same_new (o := ExO (.ref T.C_NotRight) a34) na34
    refine ⟨(by show 5 ≤ sizeLine; decide), fun l9 hl9 => ?_⟩
    have sl9 := same_new (o := .lst [.ref a30, .ref a31, .ref a32, .ref a33, .ref a34]) hl9
    have sr9 := sm30.trans (sm31.trans (sm32.trans (sm33.trans (sm34.trans (sl9)))))
    have xr9 : AllX v _ [a30, a31, a32, a33, a34] [(T.C_TooMany, some ("bound" : Str)), (T.C_Ended, some ("number" : Str)), (T.C_Waiting, some ("number" : Str)), (T.C_NothingBad, none), (T.C_NotRight, none)] := .fld (mx30.mono (sm31.trans (sm32.trans (sm33.trans (sm34.trans (sl9)))))) (.fld (mx31.mono (sm32.trans (sm33.trans (sm34.trans (sl9))))) (.fld (mx32.mono (sm33.trans (sm34.trans (sl9)))) (.bare ((sm34.trans (sl9)) _ _ upd_same) (.bare ((sl9) _ _ upd_same) (.nil)))))
    refine ⟨f9, l9, _, _, rfl, rfl, sr9 _ _ w9, upd_same, (by show 35 ≤ sizeLine; decide), fun f10 h10 => ?_⟩
    obtain ⟨G10, eG10, sb9, v10⟩ := upd_known (o := .lst ([.ref a0, .ref a1, .ref a2, .ref a3, .ref a4, .ref a5, .ref a6, .ref a7, .ref a8, .ref a9, .ref a10, .ref a11, .ref a12, .ref a13, .ref a14, .ref a15, .ref a16, .ref a17, .ref a18, .ref a19, .ref a20, .ref a21, .ref a22, .ref a23, .ref a24, .ref a25, .ref a26, .ref a27, .ref a28, .ref a29] ++ [.ref a30, .ref a31, .ref a32, .ref a33, .ref a34])) h10
    rw [← eG10]
    have s10 := s9.trans (sr9.trans sb9)
    have x10 := ((x9.mono sr9).app xr9).mono sb9
    have w10 : G10 f10 = some (HO.lst [.ref a0, .ref a1, .ref a2, .ref a3, .ref a4, .ref a5, .ref a6, .ref a7, .ref a8, .ref a9, .ref a10, .ref a11, .ref a12, .ref a13, .ref a14, .ref a15, .ref a16, .ref a17, .ref a18, .ref a19, .ref a20, .ref a21, .ref a22, .ref a23, .ref a24, .ref a25, .ref a26, .ref a27, .ref a28, .ref a29, .ref a30, .ref a31, .ref a32, .ref a33, .ref a34]) := v10
    refine ⟨_, rfl, ?_⟩
    refine fun a35 na35 => ?_
    have sm35 := same_new (o := ExO (.ref T.C_NoStore) a35) na35
    refine fun a36 na36 => ?_
    have sm36 := same_new (o := ExO (.ref T.C_NothingToUndo) a36) na36
    refine fun a37 na37 => ?_
    have sm37 := same_new (o := ExO (.ref T.C_NothingToRedo) a37) na37
    refine ⟨(by show 3 ≤ sizeLine; decide), fun l10 hl10 => ?_⟩
    have sl10 := same_new (o := .lst [.ref a35, .ref a36, .ref a37]) hl10
    have sr10 := sm35.trans (sm36.trans (sm37.trans (sl10)))
    have xr10 : AllX v _ [a35, a36, a37] [(T.C_NoStore, none), (T.C_NothingToUndo, none), (T.C_NothingToRedo, none)] := .bare ((sm36.trans (sm37.trans (sl10))) _ _ upd_same) (.bare ((sm37.trans (sl10)) _ _ upd_same) (.bare ((sl10) _ _ upd_same) (.nil)))
    refine ⟨f10, l10, _, _, rfl, rfl, sr10 _ _ w10, upd_same, (by show 38 ≤ sizeLine; decide), fun f11 h11 => ?_⟩
    obtain ⟨G11, eG11, sb10, v11⟩ := upd_known (o := .lst ([.ref a0, .ref a1, .ref a2, .ref a3, .ref a4, .ref a5, .ref a6, .ref a7, .ref a8, .ref a9, .ref a10, .ref a11, .ref a12, .ref a13, .ref a14, .ref a15, .ref a16, .ref a17, .ref a18, .ref a19, .ref a20, .ref a21, .ref a22, .ref a23, .ref a24, .ref a25, .ref a26, .ref a27, .ref a28, .ref a29, .ref a30, .ref a31, .ref a32, .ref a33, .ref a34] ++ [.ref a35, .ref a36, .ref a37])) h11
    rw [← eG11]
    have s11 := s10.trans (sr10.trans sb10)
    have x11 := ((x10.mono sr10).app xr10).mono sb10
    have w11 : G11 f11 = some (HO.lst [.ref a0, .ref a1, .ref a2, .ref a3, .ref a4, .ref a5, .ref a6, .ref a7, .ref a8, .ref a9, .ref a10, .ref a11, .ref a12, .ref a13, .ref a14, .ref a15, .ref a16, .ref a17, .ref a18, .ref a19, .ref a20, .ref a21, .ref a22, .ref a23, .ref a24, .ref a25, .ref a26, .ref a27, .ref a28, .ref a29, .ref a30, .ref a31, .ref a32, .ref a33, .ref a34, .ref a35, .ref a36, .ref a37]) := v11
    exact ⟨_, rfl, k f11 [a0, a1, a2, a3, a4, a5, a6, a7, a8, a9, a10, a11, a12, a13, a14, a15, a16, a17, a18, a19, a20, a21, a22, a23, a24, a25, a26, a27, a28, a29, a30, a31, a32, a33, a34, a35, a36, a37] _ s11 x11 w11⟩
theorem ok_law_fields (T : Txt K mg) : FnOk P w K mg base CX0 1 T.f_law_fields T.fd_law_fields ["_law_made_here"] (sp_fields (Ps T)) := by
  refine T.F_law_fields.ok sc_law_fields (fun vs H Q E h => ?_) (fun cdv A outer s H vs Q E hr h => ?_)
  · obtain ⟨p, as, v, rfl, _⟩ := h
    rfl
  · obtain ⟨p, as, v, rfl, x0, lp, k⟩ := h
    refine ⟨_, (pss_cons (ps_set (i := 1) sc_law_fields.nd rfl (Or.inl rfl) (pe_lst pa_nil))
        (pss_cons (ps_set (i := 1) sc_law_fields.nd rfl (Or.inl rfl) (pe_op op_cat (pv 1) (pe_lst (pa_cons (pe_xo (pe_ix ix_list (pv 0) pe_int (fun _ _ => rfl))) (pa_cons (pe_xo (pe_ix ix_list (pv 0) pe_int (fun _ _ => rfl))) (pa_cons (pe_xo (pe_ix ix_list (pv 0) pe_int (fun _ _ => rfl))) (pa_cons (pe_xo (pe_ix ix_list (pv 0) pe_int (fun _ _ => rfl))) (pa_cons (pe_xo (pe_ix ix_list (pv 0) pe_int (fun _ _ => rfl))) pa_nil))))))))
        (pss_cons (ps_set (i := 1) sc_law_fields.nd rfl (Or.inl rfl) (pe_op op_cat (pv 1) (pe_lst (pa_cons (pe_xo (pe_ix ix_list (pv 0) pe_int (fun _ _ => rfl))) (pa_cons (pe_xo (pe_ix ix_list (pv 0) pe_int (fun _ _ => rfl))) (pa_cons (pe_xo (pe_ix ix_list (pv 0) pe_int (fun _ _ => rfl))) (pa_cons (pe_xo (pe_ix ix_list (pv 0) pe_int (fun _ _ => rfl))) (pa_cons (pe_xo (pe_ix ix_list (pv 0) pe_int (fun _ _ => rfl))) pa_nil))))))))
        (pss_cons (ps_set (i := 1) sc_law_fields.nd rfl (Or.inl rfl) (pe_op op_cat (pv 1) (pe_lst (pa_cons (pe_xo (pe_ix ix_list (pv 0) pe_int (fun _ _ => rfl))) (pa_cons (pe_xo (pe_ix ix_list (pv 0) pe_int (fun _ _ => rfl))) (pa_cons (pe_xo (pe_ix ix_list (pv 0) pe_int (fun _ _ => rfl))) (pa_cons (pe_xo (pe_ix ix_list (pv 0) pe_int (fun _ _ => rfl))) (pa_cons (pe_xo (pe_ix ix_list (pv 0) pe_int (fun _ _ => rfl))) pa_nil))))))))
        (pss_cons (ps_set (i := 1) sc_law_fields.nd rfl (Or.inl rfl) (pe_op op_cat (pv 1) (pe_lst (pa_cons (pe_xo (pe_ix ix_list (pv 0) pe_int (fun _ _ => rfl))) (pa_cons (pe_xo (pe_ix ix_list (pv 0) pe_int (fun _ _ => rfl))) (pa_cons (pe_xo (pe_ix ix_list (pv 0) pe_int (fun _ _ => rfl))) (pa_cons (pe_xo (pe_ix ix_list (pv 0) pe_int (fun _ _ => rfl))) (pa_cons (pe_xo (pe_ix ix_list (pv 0) pe_int (fun _ _ => rfl))) pa_nil))))))))
        (pss_cons (ps_set (i := 1) sc_law_fields.nd rfl (Or.inl rfl) (pe_op op_cat (pv 1) (pe_lst (pa_cons (pe_xo (pe_ix ix_list (pv 0) pe_int (fun _ _ => rfl))) pa_nil))))
        (pss_cons (ps_set (i := 1) sc_law_fields.nd rfl (Or.inl rfl) (pe_op op_cat (pv 1) (pe_lst (pa_cons (pe_xo (pe_ix ix_list (pv 0) pe_int (fun _ _ => rfl))) (pa_cons (pe_xo (pe_ix ix_list (pv 0) pe_int (fun _ _ => rfl))) (pa_cons (pe_xo (pe_ix ix_list (pv 0) pe_int (fun _ _ => rfl))) (pa_cons (pe_xo (pe_ix ix_list (pv 0) pe_int (fun _ _ => rfl))) (pa_cons (pe_xo (pe_ix ix_list (pv 0) pe_int (fun _ _ => rfl))) pa_nil))))))))
        (pss_cons (ps_set (i := 1) sc_law_fields.nd rfl (Or.inl rfl) (pe_op op_cat (pv 1) (pe_lst (pa_cons (pe_xo (pe_ix ix_list (pv 0) pe_int (fun _ _ => rfl))) (pa_cons (pe_xo (pe_ix ix_list (pv 0) pe_int (fun _ _ => rfl))) (pa_cons (pe_xo (pe_ix ix_list (pv 0) pe_int (fun _ _ => rfl))) (pa_cons (pe_xo (pe_ix ix_list (pv 0) pe_int (fun _ _ => rfl))) (pa_cons (pe_xo (pe_ix ix_list (pv 0) pe_int (fun _ _ => rfl))) pa_nil))))))))
        (pss_cons (ps_set (i := 1) sc_law_fields.nd rfl (Or.inl rfl) (pe_op op_cat (pv 1) (pe_lst (pa_cons (pe_xo (pe_ix ix_list (pv 0) pe_int (fun _ _ => rfl))) (pa_cons (pe_xo (pe_ix ix_list (pv 0) pe_int (fun _ _ => rfl))) pa_nil)))))
        (pss_one (ps_ret (pv 1)))))))))))), ?_⟩
    have len : as.length = 38 := x0.len
    have get : ∀ (i : Nat) (C : Addr) (f : Str), (Ps T)[i]? = some (C, some f) → ∃ a, as[i]? = some a ∧ MadeX H a C f v := fun i C f e => by
      have hi : i < as.length := by
        rw [len]
        exact (List.getElem?_eq_some_iff.mp e).1
      obtain ⟨c, ec, _, h⟩ := x0.get (List.getElem?_eq_getElem hi)
      rw [e] at ec
      cases ec
      exact ⟨_, List.getElem?_eq_getElem hi, h f rfl⟩
    have ats : ∀ (i : Nat) (a : Addr), as[i]? = some a → (as.map V.ref)[i]? = some (.ref a) := fun i a e => by
      rw [List.getElem?_map, e]
      rfl
    refine ⟨Nat.zero_le _, fun f0 h0 => ?_⟩
    have s0 := same_new (o := .lst []) h0
    have w0 : (upd H f0 (.lst [])) f0 = some (.lst ([] : List V)) := upd_same
    obtain ⟨a0, ga0, d0, m0, n0⟩ := get 0 T.C_InvalidName "value" rfl
    obtain ⟨a1, ga1, d1, m1, n1⟩ := get 1 T.C_InvalidKey "value" rfl
    obtain ⟨a2, ga2, d2, m2, n2⟩ := get 2 T.C_InvalidSpan "value" rfl
    obtain ⟨a3, ga3, d3, m3, n3⟩ := get 3 T.C_InvalidSpans "value" rfl
    obtain ⟨a4, ga4, d4, m4, n4⟩ := get 4 T.C_InvalidCatalog "value" rfl
    obtain ⟨a5, ga5, d5, m5, n5⟩ := get 5 T.C_InvalidChange "value" rfl
    obtain ⟨a6, ga6, d6, m6, n6⟩ := get 6 T.C_InvalidModes "value" rfl
    obtain ⟨a7, ga7, d7, m7, n7⟩ := get 7 T.C_InvalidClash "value" rfl
    obtain ⟨a8, ga8, d8, m8, n8⟩ := get 8 T.C_InvalidStrengths "value" rfl
    obtain ⟨a9, ga9, d9, m9, n9⟩ := get 9 T.C_InvalidProgram "value" rfl
    obtain ⟨a10, ga10, d10, m10, n10⟩ := get 10 T.C_InvalidPrograms "value" rfl
    obtain ⟨a11, ga11, d11, m11, n11⟩ := get 11 T.C_InvalidProtocol "value" rfl
    obtain ⟨a12, ga12, d12, m12, n12⟩ := get 12 T.C_InvalidRows "value" rfl
    obtain ⟨a13, ga13, d13, m13, n13⟩ := get 13 T.C_InvalidSession "value" rfl
    obtain ⟨a14, ga14, d14, m14, n14⟩ := get 14 T.C_InvalidNumber "value" rfl
    obtain ⟨a15, ga15, d15, m15, n15⟩ := get 15 T.C_InvalidWeaving "value" rfl
    obtain ⟨a16, ga16, d16, m16, n16⟩ := get 16 T.C_InvalidStore "value" rfl
    obtain ⟨a17, ga17, d17, m17, n17⟩ := get 17 T.C_InvalidScene "value" rfl
    obtain ⟨a18, ga18, d18, m18, n18⟩ := get 18 T.C_InvalidLog "value" rfl
    obtain ⟨a19, ga19, d19, m19, n19⟩ := get 19 T.C_InvalidText "value" rfl
    obtain ⟨a20, ga20, d20, m20, n20⟩ := get 20 T.C_InvalidCommand "value" rfl
    obtain ⟨a21, ga21, d21, m21, n21⟩ := get 21 T.C_Duplicate "name" rfl
    obtain ⟨a22, ga22, d22, m22, n22⟩ := get 22 T.C_UnknownPart "name" rfl
    obtain ⟨a23, ga23, d23, m23, n23⟩ := get 23 T.C_UnknownMode "name" rfl
    obtain ⟨a24, ga24, d24, m24, n24⟩ := get 24 T.C_UnknownEntry "name" rfl
    obtain ⟨a25, ga25, d25, m25, n25⟩ := get 25 T.C_NameTaken "name" rfl
    obtain ⟨a26, ga26, d26, m26, n26⟩ := get 26 T.C_Overlap "name" rfl
    obtain ⟨a27, ga27, d27, m27, n27⟩ := get 27 T.C_NotInside "at" rfl
    obtain ⟨a28, ga28, d28, m28, n28⟩ := get 28 T.C_NotNeighbours "name" rfl
    obtain ⟨a29, ga29, d29, m29, n29⟩ := get 29 T.C_NoProgram "kind" rfl
    obtain ⟨a30, ga30, d30, m30, n30⟩ := get 30 T.C_TooMany "bound" rfl
    obtain ⟨a31, ga31, d31, m31, n31⟩ := get 31 T.C_Ended "number" rfl
    obtain ⟨a32, ga32, d32, m32, n32⟩ := get 32 T.C_Waiting "number" rfl
    refine ⟨_, rfl, ?_⟩
    refine ⟨_, rfl, p, _, 0, .ref a0, rfl, rfl, SqL.of (s0 _ _ lp), atI_nat (j := 0) (ats _ _ ga0), a0, T.C_InvalidName, d0, _, v, rfl, T.y_InvalidName, T.n_InvalidName, s0 _ _ m0, s0 _ _ n0, (by simp [List.lookup]), ?_⟩
    refine ⟨_, rfl, p, _, 1, .ref a1, rfl, rfl, SqL.of (s0 _ _ lp), atI_nat (j := 1) (ats _ _ ga1), a1, T.C_InvalidKey, d1, _, v, rfl, T.y_InvalidKey, T.n_InvalidKey, s0 _ _ m1, s0 _ _ n1, (by simp [List.lookup]), ?_⟩
    refine ⟨_, rfl, p, _, 2, .ref a2, rfl, rfl, SqL.of (s0 _ _ lp), atI_nat (j := 2) (ats _ _ ga2), a2, T.C_InvalidSpan, d2, _, v, rfl, T.y_InvalidSpan, T.n_InvalidSpan, s0 _ _ m2, s0 _ _ n2, (by simp [List.lookup]), ?_⟩
    refine ⟨_, rfl, p, _, 3, .ref a3, rfl, rfl, SqL.of (s0 _ _ lp), atI_nat (j := 3) (ats _ _ ga3), a3, T.C_InvalidSpans, d3, _, v, rfl, T.y_InvalidSpans, T.n_InvalidSpans, s0 _ _ m3, s0 _ _ n3, (by simp [List.lookup]), ?_⟩
    refine ⟨_, rfl, p, _, 4, .ref a4, rfl, rfl, SqL.of (s0 _ _ lp), atI_nat (j := 4) (ats _ _ ga4), a4, T.C_InvalidCatalog, d4, _, v, rfl, T.y_InvalidCatalog, T.n_InvalidCatalog, s0 _ _ m4, s0 _ _ n4, (by simp [List.lookup]), ?_⟩
    refine ⟨(by show 5 ≤ sizeLine; decide), fun l0 hl0 => ?_⟩
    have sl0 := same_new (o := .lst [v, v, v, v, v]) hl0
    refine ⟨f0, l0, _, _, rfl, rfl, sl0 _ _ w0, upd_same, (by show 5 ≤ sizeLine; decide), fun f1 h1 => ?_⟩
    obtain ⟨G1, eG1, sb0, v1⟩ := upd_known (o := .lst ([] ++ [v, v, v, v, v])) h1
    rw [← eG1]
    have s1 := s0.trans (sl0.trans sb0)
    have w1 : G1 f1 = some (HO.lst [v, v, v, v, v]) := v1
    refine ⟨_, rfl, ?_⟩
    refine ⟨_, rfl, p, _, 5, .ref a5, rfl, rfl, SqL.of (s1 _ _ lp), atI_nat (j := 5) (ats _ _ ga5), a5, T.C_InvalidChange, d5, _, v, rfl, T.y_InvalidChange, T.n_InvalidChange, s1 _ _ m5, s1 _ _ n5, (by simp [List.lookup]), ?_⟩
    refine ⟨_, rfl, p, _, 6, .ref a6, rfl, rfl, SqL.of (s1 _ _ lp), atI_nat (j := 6) (ats _ _ ga6), a6, T.C_InvalidModes, d6, _, v, rfl, T.y_InvalidModes, T.n_InvalidModes, s1 _ _ m6, s1 _ _ n6, (by simp [List.lookup]), ?_⟩
    refine ⟨_, rfl, p, _, 7, .ref a7, rfl, rfl, SqL.of (s1 _ _ lp), atI_nat (j := 7) (ats _ _ ga7), a7, T.C_InvalidClash, d7, _, v, rfl, T.y_InvalidClash, T.n_InvalidClash, s1 _ _ m7, s1 _ _ n7, (by simp [List.lookup]), ?_⟩
    refine ⟨_, rfl, p, _, 8, .ref a8, rfl, rfl, SqL.of (s1 _ _ lp), atI_nat (j := 8) (ats _ _ ga8), a8, T.C_InvalidStrengths, d8, _, v, rfl, T.y_InvalidStrengths, T.n_InvalidStrengths, s1 _ _ m8, s1 _ _ n8, (by simp [List.lookup]), ?_⟩
    refine ⟨_, rfl, p, _, 9, .ref a9, rfl, rfl, SqL.of (s1 _ _ lp), atI_nat (j := 9) (ats _ _ ga9), a9, T.C_InvalidProgram, d9, _, v, rfl, T.y_InvalidProgram, T.n_InvalidProgram, s1 _ _ m9, s1 _ _ n9, (by simp [List.lookup]), ?_⟩
    refine ⟨(by show 5 ≤ sizeLine; decide), fun l1 hl1 => ?_⟩
    have sl1 := same_new (o := .lst [v, v, v, v, v]) hl1
    refine ⟨f1, l1, _, _, rfl, rfl, sl1 _ _ w1, upd_same, (by show 10 ≤ sizeLine; decide), fun f2 h2 => ?_⟩
    obtain ⟨G2, eG2, sb1, v2⟩ := upd_known (o := .lst ([v, v, v, v, v] ++ [v, v, v, v, v])) h2
    rw [← eG2]
    have s2 := s1.trans (sl1.trans sb1)
    have w2 : G2 f2 = some (HO.lst [v, v, v, v, v, v, v, v, v, v]) := v2
    refine ⟨_, rfl, ?_⟩
    refine ⟨_, rfl, p, _, 10, .ref a10, rfl, rfl, SqL.of (s2 _ _ lp), atI_nat (j := 10) (ats _ _ ga10), a10, T.C_InvalidPrograms, d10, _, v, rfl, T.y_InvalidPrograms, T.n_InvalidPrograms, s2 _ _ m10, s2 _ _ n10, (by simp [List.lookup]), ?_⟩
    refine ⟨_, rfl, p, _, 11, .ref a11, rfl, rfl, SqL.of (s2 _ _ lp), atI_nat (j := 11) (ats _ _ ga11), a11, T.C_InvalidProtocol, d11, _, v, rfl, T.y_InvalidProtocol, T.n_InvalidProtocol, s2 _ _ m11, s2 _ _ n11, (by simp [List.lookup]), ?_⟩
    refine ⟨_, rfl, p, _, 12, .ref a12, rfl, rfl, SqL.of (s2 _ _ lp), atI_nat (j := 12) (ats _ _ ga12), a12, T.C_InvalidRows, d12, _, v, rfl, T.y_InvalidRows, T.n_InvalidRows, s2 _ _ m12, s2 _ _ n12, (by simp [List.lookup]), ?_⟩
    refine ⟨_, rfl, p, _, 13, .ref a13, rfl, rfl, SqL.of (s2 _ _ lp), atI_nat (j := 13) (ats _ _ ga13), a13, T.C_InvalidSession, d13, _, v, rfl, T.y_InvalidSession, T.n_InvalidSession, s2 _ _ m13, s2 _ _ n13, (by simp [List.lookup]), ?_⟩
    refine ⟨_, rfl, p, _, 14, .ref a14, rfl, rfl, SqL.of (s2 _ _ lp), atI_nat (j := 14) (ats _ _ ga14), a14, T.C_InvalidNumber, d14, _, v, rfl, T.y_InvalidNumber, T.n_InvalidNumber, s2 _ _ m14, s2 _ _ n14, (by simp [List.lookup]), ?_⟩
    refine ⟨(by show 5 ≤ sizeLine; decide), fun l2 hl2 => ?_⟩
    have sl2 := same_new (o := .lst [v, v, v, v, v]) hl2
    refine ⟨f2, l2, _, _, rfl, rfl, sl2 _ _ w2, upd_same, (by show 15 ≤ sizeLine; decide), fun f3 h3 => ?_⟩
    obtain ⟨G3, eG3, sb2, v3⟩ := upd_known (o := .lst ([v, v, v, v, v, v, v, v, v, v] ++ [v, v, v, v, v])) h3
    rw [← eG3]
    have s3 := s2.trans (sl2.trans sb2)
    have w3 : G3 f3 = some (HO.lst [v, v, v, v, v, v, v, v, v, v, v, v, v, v, v]) := v3
    refine ⟨_, rfl, ?_⟩
    refine ⟨_, rfl, p, _, 15, .ref a15, rfl, rfl, SqL.of (s3 _ _ lp), atI_nat (j := 15) (ats _ _ ga15), a15, T.C_InvalidWeaving, d15, _, v, rfl, T.y_InvalidWeaving, T.n_InvalidWeaving, s3 _ _ m15, s3 _ _ n15, (by simp [List.lookup]), ?_⟩
    refine ⟨_, rfl, p, _, 16, .ref a16, rfl, rfl, SqL.of (s3 _ _ lp), atI_nat (j := 16) (ats _ _ ga16), a16, T.C_InvalidStore, d16, _, v, rfl, T.y_InvalidStore, T.n_InvalidStore, s3 _ _ m16, s3 _ _ n16, (by simp [List.lookup]), ?_⟩
    refine ⟨_, rfl, p, _, 17, .ref a17, rfl, rfl, SqL.of (s3 _ _ lp), atI_nat (j := 17) (ats _ _ ga17), a17, T.C_InvalidScene, d17, _, v, rfl, T.y_InvalidScene, T.n_InvalidScene, s3 _ _ m17, s3 _ _ n17, (by simp [List.lookup]), ?_⟩
    refine ⟨_, rfl, p, _, 18, .ref a18, rfl, rfl, SqL.of (s3 _ _ lp), atI_nat (j := 18) (ats _ _ ga18), a18, T.C_InvalidLog, d18, _, v, rfl, T.y_InvalidLog, T.n_InvalidLog, s3 _ _ m18, s3 _ _ n18, (by simp [List.lookup]), ?_⟩
    refine ⟨_, rfl, p, _, 19, .ref a19, rfl, rfl, SqL.of (s3 _ _ lp), atI_nat (j := 19) (ats _ _ ga19), a19, T.C_InvalidText, d19, _, v, rfl, T.y_InvalidText, T.n_InvalidText, s3 _ _ m19, s3 _ _ n19, (by simp [List.lookup]), ?_⟩
    refine ⟨(by show 5 ≤ sizeLine; decide), fun l3 hl3 => ?_⟩
    have sl3 := same_new (o := .lst [v, v, v, v, v]) hl3
    refine ⟨f3, l3, _, _, rfl, rfl, sl3 _ _ w3, upd_same, (by show 20 ≤ sizeLine; decide), fun f4 h4 => ?_⟩
    obtain ⟨G4, eG4, sb3, v4⟩ := upd_known (o := .lst ([v, v, v, v, v, v, v, v, v, v, v, v, v, v, v] ++ [v, v, v, v, v])) h4
    rw [← eG4]
    have s4 := s3.trans (sl3.trans sb3)
    have w4 : G4 f4 = some (HO.lst [v, v, v, v, v, v, v, v, v, v, v, v, v, v, v, v, v, v, v, v]) := v4
    refine ⟨_, rfl, ?_⟩
    refine ⟨_, rfl, p, _, 20, .ref a20, rfl, rfl, SqL.of (s4 _ _ lp), atI_nat (j := 20) (ats _ _ ga20), a20, T.C_InvalidCommand, d20, _, v, rfl, T.y_InvalidCommand, T.n_InvalidCommand, s4 _ _ m20, s4 _ _ n20, (by simp [List.lookup]), ?_⟩
    refine ⟨(by show 1 ≤ sizeLine; decide), fun l4 hl4 => ?_⟩
    have sl4 := same_new (o := .lst [v]) hl4
    refine ⟨f4, l4, _, _, rfl, rfl, sl4 _ _ w4, upd_same, (by show 21 ≤ sizeLine; decide), fun f5 h5 => ?_⟩
    obtain ⟨G5, eG5, sb4, v5⟩ := upd_known (o := .lst ([v, v, v, v, v, v, v, v, v, v, v, v, v, v, v, v, v, v, v, v] ++ [v])) h5
    rw [← eG5]
    have s5 := s4.trans (sl4.trans sb4)
    have w5 : G5 f5 = some (HO.lst [v, v, v, v, v, v, v, v, v, v, v, v, v, v, v, v, v, v, v, v, v]) := v5
    refine ⟨_, rfl, ?_⟩
    refine ⟨_, rfl, p, _, 21, .ref a21, rfl, rfl, SqL.of (s5 _ _ lp), atI_nat (j := 21) (ats _ _ ga21), a21, T.C_Duplicate, d21, _, v, rfl, T.y_Duplicate, T.n_Duplicate, s5 _ _ m21, s5 _ _ n21, (by simp [List.lookup]), ?_⟩
    refine ⟨_, rfl, p, _, 22, .ref a22, rfl, rfl, SqL.of (s5 _ _ lp), atI_nat (j := 22) (ats _ _ ga22), a22, T.C_UnknownPart, d22, _, v, rfl, T.y_UnknownPart, T.n_UnknownPart, s5 _ _ m22, s5 _ _ n22, (by simp [List.lookup]), ?_⟩
    refine ⟨_, rfl, p, _, 23, .ref a23, rfl, rfl, SqL.of (s5 _ _ lp), atI_nat (j := 23) (ats _ _ ga23), a23, T.C_UnknownMode, d23, _, v, rfl, T.y_UnknownMode, T.n_UnknownMode, s5 _ _ m23, s5 _ _ n23, (by simp [List.lookup]), ?_⟩
    refine ⟨_, rfl, p, _, 24, .ref a24, rfl, rfl, SqL.of (s5 _ _ lp), atI_nat (j := 24) (ats _ _ ga24), a24, T.C_UnknownEntry, d24, _, v, rfl, T.y_UnknownEntry, T.n_UnknownEntry, s5 _ _ m24, s5 _ _ n24, (by simp [List.lookup]), ?_⟩
    refine ⟨_, rfl, p, _, 25, .ref a25, rfl, rfl, SqL.of (s5 _ _ lp), atI_nat (j := 25) (ats _ _ ga25), a25, T.C_NameTaken, d25, _, v, rfl, T.y_NameTaken, T.n_NameTaken, s5 _ _ m25, s5 _ _ n25, (by simp [List.lookup]), ?_⟩
    refine ⟨(by show 5 ≤ sizeLine; decide), fun l5 hl5 => ?_⟩
    have sl5 := same_new (o := .lst [v, v, v, v, v]) hl5
    refine ⟨f5, l5, _, _, rfl, rfl, sl5 _ _ w5, upd_same, (by show 26 ≤ sizeLine; decide), fun f6 h6 => ?_⟩
    obtain ⟨G6, eG6, sb5, v6⟩ := upd_known (o := .lst ([v, v, v, v, v, v, v, v, v, v, v, v, v, v, v, v, v, v, v, v, v] ++ [v, v, v, v, v])) h6
    rw [← eG6]
    have s6 := s5.trans (sl5.trans sb5)
    have w6 : G6 f6 = some (HO.lst [v, v, v, v, v, v, v, v, v, v, v, v, v, v, v, v, v, v, v, v, v, v, v, v, v, v]) := v6
    refine ⟨_, rfl, ?_⟩
    refine ⟨_, rfl, p, _, 26, .ref a26, rfl, rfl, SqL.of (s6 _ _ lp), atI_nat (j := 26) (ats _ _ ga26), a26, T.C_Overlap, d26, _, v, rfl, T.y_Overlap, T.n_Overlap, s6 _ _ m26, s6 _ _ n26, (by simp [List.lookup]), ?_⟩
    refine ⟨_, rfl, p, _, 27, .ref a27, rfl, rfl, SqL.of (s6 _ _ lp), atI_nat (j := 27) (ats _ _ ga27), a27, T.C_NotInside, d27, _, v, rfl, T.y_NotInside, T.n_NotInside, s6 _ _ m27, s6 _ _ n27, (by simp [List.lookup]), ?_⟩
    refine ⟨_, rfl, p, _, 28, .ref a28, rfl, rfl, SqL.of (s6 _ _ lp), atI_nat (j := 28) (ats _ _ ga28), a28, T.C_NotNeighbours, d28, _, v, rfl, T.y_NotNeighbours, T.n_NotNeighbours, s6 _ _ m28, s6 _ _ n28, (by simp [List.lookup]), ?_⟩
    refine ⟨_, rfl, p, _, 29, .ref a29, rfl, rfl, SqL.of (s6 _ _ lp), atI_nat (j := 29) (ats _ _ ga29), a29, T.C_NoProgram, d29, _, v, rfl, T.y_NoProgram, T.n_NoProgram, s6 _ _ m29, s6 _ _ n29, (by simp [List.lookup]), ?_⟩
    refine ⟨_, rfl, p, _, 30, .ref a30, rfl, rfl, SqL.of (s6 _ _ lp), atI_nat (j := 30) (ats _ _ ga30), a30, T.C_TooMany, d30, _, v, rfl, T.y_TooMany, T.n_TooMany, s6 _ _ m30, s6 _ _ n30, (by simp [List.lookup]), ?_⟩
    refine ⟨(by show 5 ≤ sizeLine; decide), fun l6 hl6 => ?_⟩
    have sl6 := same_new (o := .lst [v, v, v, v, v]) hl6
    refine ⟨f6, l6, _, _, rfl, rfl, sl6 _ _ w6, upd_same, (by show 31 ≤ sizeLine; decide), fun f7 h7 => ?_⟩
    obtain ⟨G7, eG7, sb6, v7⟩ := upd_known (o := .lst ([v, v, v, v, v, v, v, v, v, v, v, v, v, v, v, v, v, v, v, v, v, v, v, v, v, v] ++ [v, v, v, v, v])) h7
    rw [← eG7]
    have s7 := s6.trans (sl6.trans sb6)
    have w7 : G7 f7 = some (HO.lst [v, v, v, v, v, v, v, v, v, v, v, v, v, v, v, v, v, v, v, v, v, v, v, v, v, v, v, v, v, v, v]) := v7
    refine ⟨_, rfl, ?_⟩
    refine ⟨_, rfl, p, _, 31, .ref a31, rfl, rfl, SqL.of (s7 _ _ lp), atI_nat (j := 31) (ats _ _ ga31), a31, T.C_Ended, d31, _, v, rfl, T.y_Ended, T.n_Ended, s7 _ _ m31, s7 _ _ n31, (by simp [List.lookup]), ?_⟩
    refine ⟨_, rfl, p, _, 32, .ref a32, rfl, rfl, SqL.of (s7 _ _ lp), atI_nat (j := 32) (ats _ _ ga32), a32, T.C_Waiting, d32, _, v, rfl, T.y_Waiting, T.n_Waiting, s7 _ _ m32, s7 _ _ n32, (by simp [List.lookup]), ?_⟩
    refine ⟨(by show 2 ≤ sizeLine; decide), fun l7 hl7 => ?_⟩
    have sl7 := same_new (o := .lst [v, v]) hl7
    refine ⟨f7, l7, _, _, rfl, rfl, sl7 _ _ w7, upd_same, (by show 33 ≤ sizeLine; decide), fun f8 h8 => ?_⟩
    obtain ⟨G8, eG8, sb7, v8⟩ := upd_known (o := .lst ([v, v, v, v, v, v, v, v, v, v, v, v, v, v, v, v, v, v, v, v, v, v, v, v, v, v, v, v, v, v, v] ++ [v, v])) h8
    rw [← eG8]
    have s8 := s7.trans (sl7.trans sb7)
    have w8 : G8 f8 = some (HO.lst [v, v, v, v, v, v, v, v, v, v, v, v, v, v, v, v, v, v, v, v, v, v, v, v, v, v, v, v, v, v, v, v, v]) := v8
    exact ⟨_, rfl, k f8 _ s8 w8⟩
theorem ok_law (T : Txt K mg) : FnOk P w K mg base CX0 4 T.f_law T.fd_law ["_law_script"] (sp_law K) := by
  refine T.F_law.ok sc_law (fun vs H Q E h => ?_) (fun cdv A outer s H vs Q E hr h => ?_)
  · obtain ⟨a, ns, rfl, _⟩ := h
    rfl
  · obtain ⟨a, ns, rfl, hS, hlen, k⟩ := h
    refine ⟨_, (pss_cons (ps_for PassesOwn.never rfl (pi_range1 rfl T.z_range (pa_cons (pe_callB (id := "max") (call_max2 rfl) (by rfl) T.z_max (by decide +kernel) (pa_cons pe_int (pa_cons (pe_callB (id := "min") (call_min2 rfl) (by rfl) T.z_min (by decide +kernel) (pa_cons pe_int (pa_cons (pe_callB (id := "len") call_len_seq (by rfl) T.z_len (by decide +kernel) (pa_cons (pv 0) pa_nil)) pa_nil))) pa_nil))) pa_nil)) (pg_name (i := 1) sc_law.nd rfl (Or.inl rfl))
          (pss_cons (ps_set (i := 2) sc_law.nd rfl (Or.inl rfl) (pe_call (ok_law_box T) (hr.mono (by decide)) rfl T.m_law_box T.F_law_box.kp T.b_law_box .nil pass0 (pa_cons (pe_call (ok_law_cell T) (hr.mono (by decide)) rfl T.m_law_cell T.F_law_cell.kp T.b_law_cell .nil pass0 (pa_cons (pv 0) (pa_cons (pv 1) pa_nil))) pa_nil)))
        (pss_cons (ps_set (i := 3) sc_law.nd rfl (Or.inr rfl) (pe_ix ix_list (pe_lst (pa_cons pe_non (pa_cons pe_int (pa_cons pe_bl (pa_cons pe_str (pa_cons (pe_lst (pa_cons pe_int pa_nil)) (pa_cons (pe_lst (pa_cons pe_str (pa_cons (pe_lst (pa_cons pe_int pa_nil)) pa_nil))) (pa_cons (pe_disp (pps_cons pe_str pe_int pps_nil) (by rfl) (by rfl) (fun z => by cases z) (by decide)) (pa_cons (pe_tup (pa_cons pe_int (pa_cons pe_int pa_nil))) (pa_cons pe_str (pa_cons (pe_op op_pow pe_int pe_int) pa_nil))))))))))) (pe_call (ok_law_take T) (hr.mono (by decide)) rfl T.m_law_take T.F_law_take.kp T.b_law_take .nil pass0 (pa_cons (pv 2) (pa_cons pe_int pa_nil))) (fun _ _ => rfl)))
        (pss_cons (ps_set (i := 4) sc_law.nd rfl (Or.inr rfl) (pe_call (ok_law_made T) hr rfl T.m_law_made T.F_law_made.kp T.b_law_made .nil pass0 (pa_cons (pv 3) pa_nil)))
        (pss_cons (ps_if (pt_cmpR (op_neD hr.units) (pe_lc (own := [("_law_at", 6)]) (g := gName 6) rfl sc_law.nd (pi_range1 rfl T.z_range (pa_cons (pe_callB (id := "len") call_len_seq (by rfl) T.z_len (by decide +kernel) (pa_cons (pv 4) pa_nil)) pa_nil)) (blkOk_by (own := [("_law_at", 6)]) (N := ["_law_script", "_law_k", "_law_box_here", "_law_thing", "_law_made_here", "_law_told", "_law_at", "_law_item"]) (sc := defScope s_law) (by decide +kernel)) (fun _ _ _ _ _ => (pg_name (i := 6) sc_law.nd rfl (Or.inl rfl))) (fun _ _ _ _ _ => (pts_one (PW.pt (pw_or (pt_cmpR (r := rNeD K) (op_neD hr.units) (pe_call (ok_law_classes T) (hr.mono (by decide)) rfl T.m_law_classes T.F_law_classes.kp T.b_law_classes .nil pass0 (pa_cons (pe_ix (r := rIxL K) ix_list (pv 4) (pv 6) (fun _ _ => rfl)) pa_nil)) (pe_lst (pa_cons (pv 6) pa_nil)) (nomark _)) (pw_or1 (pt_not (pt_val (pe_call (ok_law_under T) (hr.mono (by decide)) rfl T.m_law_under T.F_law_under.kp T.b_law_under .nil pass0 (pa_cons (pe_ix (r := rIxL K) ix_list (pv 4) (pv 6) (fun _ _ => rfl)) pa_nil))))))))) (fun _ _ _ _ _ => (pv 6))) (pe_lst pa_nil) (nomark _)) (pss_one (ps_ret pe_bl)) pss_nil)
        (pss_cons (ps_set (i := 5) sc_law.nd rfl (Or.inl rfl) (pe_call (ok_law_fields T) (hr.mono (by decide)) rfl T.m_law_fields T.F_law_fields.kp T.b_law_fields .nil pass0 (pa_cons (pv 4) pa_nil)))
        (pss_cons (ps_if (pt_cmpR (op_neD hr.units) (pe_lc (own := [("_law_item", 7)]) (g := gName 7) rfl sc_law.nd (pi_list (pv 5)) (blkOk_by (own := [("_law_item", 7)]) (N := ["_law_script", "_law_k", "_law_box_here", "_law_thing", "_law_made_here", "_law_told", "_law_at", "_law_item"]) (sc := defScope s_law) (by decide +kernel)) (fun _ _ _ _ _ => (pg_name (i := 7) sc_law.nd rfl (Or.inl rfl))) (fun _ _ _ _ _ => (pts_one (PW.pt (pw_or (pt_cmpR (r := rNeT K) (op_neT hr.units) (pv 7) (pv 3) (nomark _)) (pw_or1 (pt_cmpR op_ne (pe_callB (id := "isinstance") (r := rIsi K) call_isi (by rfl) T.z_isinstance (by decide +kernel) (pa_cons (pv 7) (pa_cons (pe_bltn (v := .ty "bool") (u := .type "bool") (by rfl) T.z_bool (by decide +kernel) rfl) pa_nil))) (pe_callB (id := "isinstance") (r := rIsi K) call_isi (by rfl) T.z_isinstance (by decide +kernel) (pa_cons (pv 3) (pa_cons (pe_bltn (v := .ty "bool") (u := .type "bool") (by rfl) T.z_bool (by decide +kernel) rfl) pa_nil))) (nomark _))))))) (fun _ _ _ _ _ => (pv 7))) (pe_lst pa_nil) (nomark _)) (pss_one (ps_ret pe_bl)) pss_nil)
        (pss_one (ps_if (PW.pt (pw_or (pt_not (pt_val (pe_callB (id := "isinstance") (r := rIsE K) call_isE (by rfl) T.z_isinstance (by decide +kernel) (pa_cons (pe_exc1 PySem.F.excBase_ValueError T.q_PartsError T.g_PartsError T.kp_PartsError rfl pe_str) (pa_cons (pe_bltn (v := .ty "ValueError") (u := .type "ValueError") (by rfl) T.z_ValueError (by decide +kernel) rfl) pa_nil))))) (pw_or1 (pt_cmpR (op_neD hr.units) (pe_call (ok_law_classes T) (hr.mono (by decide)) rfl T.m_law_classes T.F_law_classes.kp T.b_law_classes .nil pass0 (pa_cons (pe_exc1 PySem.F.excBase_ValueError T.q_PartsError T.g_PartsError T.kp_PartsError rfl pe_str) pa_nil)) (pe_lst pa_nil) (nomark _))))) (pss_one (ps_ret pe_bl)) pss_nil)))))))))
        (pss_one (ps_ret pe_bl))), ?_⟩
    refine ⟨_, rfl, a, _, rfl, .inl hS, _, _, rfl, _, _, rfl, _, rfl, ?_, ?_, for_range (fun i σ H' => ∃ v1 v2 v3 v4 v5 v6 v7, σ = [some (.ref a), v1, v2, v3, v4, v5, v6, v7] ∧ Same H H') ⟨none, none, none, none, none, none, none, rfl, Same.refl H⟩ ?_ ?_⟩
    · repeat' split
      all_goals omega
    · repeat' split
      all_goals omega
    · rintro i σ H1 hi ⟨v1, v2, v3, v4, v5, v6, v7, rfl, s1⟩
      refine ⟨_, rfl, _, rfl, a, ns, _, rfl, s1.seq hS, (by omega), fun z => ⟨z, rfl, fun p o hp bx => ?_⟩⟩
      have B : BoxIn H1 (upd H1 p o) p 0 := ⟨same_new hp, hp, bx⟩
      refine ⟨(by show 1 ≤ sizeLine; decide), fun t1 ht1 => ?_⟩
      have b1 := B.new (o := .lst [.int 1]) ht1
      refine ⟨(by show 1 ≤ sizeLine; decide), fun t2 ht2 => ?_⟩
      have b2 := b1.1.new (o := .lst [.int 2]) ht2
      refine ⟨(by show 2 ≤ sizeLine; decide), fun t3 ht3 => ?_⟩
      have b3 := b2.1.new (o := .lst [.str "a", .ref t2]) ht3
      refine fun t4 ht4 => ⟨upd_same, dA, rfl, (by decide), ?_⟩
      rw [upd_upd, show mergeK [] dA = dA from rfl]
      have b4 := b3.1.new (o := .dK dA) ht4
      refine ⟨(by show 2 ≤ sizeLine; decide), fun t5 ht5 => ?_⟩
      have b5 := b4.1.new (o := .tup [.int 1, .int 2]) ht5
      refine ⟨_, _, rfl, rfl, ⟨by decide, by decide, by decide⟩, (by show 10 ≤ sizeLine; decide), fun l hl => ?_⟩
      have b6 := b5.1.new (o := .lst [.non, .int 5, .bl true, .str "a", .ref t1, .ref t3, .ref t4, .ref t5, .str "", .int (10 ^ (29 : Int).toNat)]) hl
      refine ⟨_, rfl, _, p, _, 10, rfl, b6.1, by decide, by decide, by decide, fun z7 H7 z70 z71 B7 => ?_⟩
      obtain ⟨v, hv, hm⟩ := atI_in (xs := [V.non, .int 5, .bl true, .str "a", .ref t1, .ref t3, .ref t4, .ref t5, .str "", .int (10 ^ (29 : Int).toNat)]) z70 z71
      refine ⟨l, _, z7, v, rfl, rfl, SqL.of (B7.same _ _ upd_same), hv, ?_⟩
      have hth : ∃ G, Same H1 G ∧ BoxIn G H7 p 1 ∧ ThV K G v := by
        have m6 := b6.2
        have m5 := b5.2.trans m6
        have m4 := b4.2.trans m5
        have m3 := b3.2.trans m4
        have m2 := b2.2.trans m3
        refine ⟨_, b1.2.trans m2, B7, ?_⟩
        simp only [List.mem_cons, List.not_mem_nil, or_false] at hm
        rcases hm with rfl | rfl | rfl | rfl | rfl | rfl | rfl | rfl | rfl | rfl
        · exact .dat .non (by decide +kernel)
        · exact .dat (.int 5) (by decide +kernel)
        · exact .dat (.bl true) (by decide +kernel)
        · exact .dat (.str _) (by decide +kernel)
        · exact .dat (.lst (SqL.of (m2 _ _ upd_same)) (.cons (.int 1) .nil)) (by decide +kernel)
        · exact .dat (.lst (SqL.of (m4 _ _ upd_same)) (.cons (.str _) (.cons (.lst (SqL.of (m3 _ _ upd_same)) (.cons (.int 2) .nil)) .nil))) (by decide +kernel)
        · exact .dic (m5 _ _ upd_same)
        · exact .dat (.tup (SqT.of (m6 _ _ upd_same)) (.cons (.int 1) (.cons (.int 2) .nil))) (by decide +kernel)
        · exact .dat (.str _) (by decide +kernel)
        · exact .dat (.int _) (by decide +kernel)
      obtain ⟨G, sG, C, th⟩ := hth
      clear b1 b2 b3 b4 b5 b6 B7 hm hv
      have s7 : Same H H7 := s1.trans (sG.trans C.same)
      have th7 := th.mono C.same
      refine ⟨_, rfl, v, rfl, fun m as H8 s8 x8 lm => ?_⟩
      have hlen38 : (as.map V.ref).length = 38 := by
        rw [List.length_map]
        exact x8.len
      have fil : ∀ i, i < 38 → (List.range 38).filter (fun j => i == j) = [i] := by decide
      have each : ∀ i, i < 38 → ∃ e Ce, as[i]? = some e ∧ (Cs T)[i]? = some Ce ∧ EAt H8 e Ce ∧ KitE K Ce ∧ kitUp K T.C_PartsError Ce = true := fun i hi => by
        have hi' : i < as.length := by
          rw [List.length_map] at hlen38
          omega
        obtain ⟨c, ec, ea, _⟩ := x8.get (List.getElem?_eq_getElem hi')
        have ec' : (Cs T)[i]? = some c.1 := by
          show ((Ps T).map (·.1))[i]? = some c.1
          rw [List.getElem?_map, ec]
          rfl
        have mem := List.mem_of_getElem? ec'
        exact ⟨_, c.1, List.getElem?_eq_getElem hi', ec', ea, kitsE_get T.ke (List.mem_cons_of_mem _ mem), List.all_eq_true.mp T.ups _ (List.mem_cons_of_mem _ mem)⟩
      refine ⟨_, rfl, m, _, rfl, .inl (SqL.of lm), _, rfl, (by rw [hlen38]; decide), (by rw [hlen38]; decide), fun D hD => ?_⟩
      refine lc_acc walk_range hD (fun _ _ => trivial) (fun _ => []) rfl (fun i _ => (by show 0 < sizeLine; decide)) ?_ ?_
      · rintro i y H9 hi0 rfl s9 R S r1 r2
        have hi : i < 38 := by
          rw [hlen38] at hi0
          exact hi0
        obtain ⟨e, Ce, he, hC, ea, KE, up⟩ := each i hi
        have hat : atI (as.map V.ref) (0 + (i : Int)) = some (.ref e) := by
          rw [Int.zero_add]
          exact atI_nat (by rw [List.getElem?_map, he]; rfl)
        refine ⟨rfl, ?_⟩
        refine ⟨_, rfl, _, rfl, m, _, _, .ref e, rfl, rfl, SqL.of (s9 _ _ lm), hat, e, Ce, fun j => i == j, rfl, ea.mono s9, KE, fun j d hj => kitTab_get T.tab hC hj, fun q H10 s10 hq => ?_⟩
        refine ⟨_, rfl, (by show 1 ≤ sizeLine; decide), fun g hg => ?_⟩
        have sg := same_new (o := .lst [.int (0 + (i : Int))]) hg
        have fi : ((List.range 38).filter (fun j => i == j)).map (fun j => V.int ((j : Nat) : Int)) = [V.int (i : Int)] := by
          rw [fil i hi]
          rfl
        have hq' : H10 q = some (.lst [.int (i : Int)]) := by
          rw [← fi]
          exact hq
        have ei : (0 : Int) + (i : Int) = (i : Int) := Int.zero_add _
        have sh1 : SeqAt.shaped (.list [.int (i : Int)]) = true := shaped_list (n := 0) (by decide) fun d hd => by
          cases List.mem_singleton.mp hd
          exact ⟨rfl, by simp [PyData.depth]⟩
        refine ⟨.list [.int i], .list [.int i], .lst (SqL.of (sg _ _ hq')) (.cons (.int _) .nil), .lst (SqL.of upd_same) (by show DpAll K _ [V.int (0 + (i : Int))] _; rw [ei]; exact .cons (.int _) .nil), sh1, sh1, _, rfl, iteFe (by rw [SeqAt.eqv_refl _ (shaped_iff.mp sh1).1]; rfl) ?_⟩
        have st := s9.trans (s10.trans sg)
        exact ⟨_, rfl, _, rfl, m, _, _, .ref e, rfl, rfl, SqL.of (st _ _ lm), hat, e, Ce, rfl, ea.mono st, KE, up, _, rfl, iteF (r2 _ rfl (s10.trans sg))⟩
      intro H9 s9 hlD
      refine ⟨Nat.zero_le _, fun q2 hq2 => ?_⟩
      have sq := same_new (o := .lst []) hq2
      have sA := s9.trans sq
      refine ⟨.list [], .list [], .lst (SqL.of (sq _ _ hlD)) .nil, .lst (SqL.of upd_same) .nil, shaped_nil, shaped_nil, _, rfl, iteFe (by rw [eqv_nil]; rfl) ?_⟩
      refine ⟨_, rfl, m, as, v, rfl, x8.mono sA, sA _ _ lm, fun q3 H11 s11 hq3 => ?_⟩
      refine ⟨_, rfl, q3, rfl, ⟨_, SqL.of hq3⟩, fun D2 hD2 => ?_⟩
      have th11 := th7.mono (s8.trans (sA.trans s11))
      refine lc_acc walk_list hD2 (fun H' k => SqL.of (k _ _ hq3)) (fun _ => []) rfl (fun i _ => (by show 0 < sizeLine; decide)) ?_ ?_
      · rintro j y H12 hj hy s12 R S r1 r2
        have hy' : (List.replicate 33 v)[j]? = some y := hy
        have ey : y = v := List.eq_of_mem_replicate (List.mem_of_getElem? hy')
        subst ey
        have thS := th11.mono s12
        obtain ⟨oo, ty⟩ := thS.ty
        refine ⟨rfl, _, rfl, _, rfl, ne_same thS ⟨_, rfl, iteF ?_⟩⟩
        exact ⟨_, rfl, _, _, _, _, _, rfl, .ty _, ty, kit_o oo (.inr (.inl rfl)), _, rfl, _, _, _, _, _, rfl, .ty _, ty, kit_o oo (.inr (.inl rfl)), rfl, _, rfl, iteFe (by simp) (r2 _ rfl (Same.refl _))⟩
      intro H12 s12 hl2
      refine ⟨Nat.zero_le _, fun q4 hq4 => ?_⟩
      have sq4 := same_new (o := .lst []) hq4
      refine ⟨.list [], .list [], .lst (SqL.of (sq4 _ _ hl2)) .nil, .lst (SqL.of upd_same) .nil, shaped_nil, shaped_nil, _, rfl, iteFe (by rw [eqv_nil]; rfl) ?_⟩
      have KP : KitE K T.C_PartsError := kitsE_get T.ke List.mem_cons_self
      have UP := List.all_eq_true.mp T.ups _ (List.mem_cons_self (a := T.C_PartsError) (l := Cs T))
      have sB := s7.trans (s8.trans (sA.trans (s11.trans (s12.trans sq4))))
      refine fun e1 he1 => ?_
      have se1 := same_new (o := ExO (.ref T.C_PartsError) e1) he1
      refine ⟨e1, T.C_PartsError, _, _, true, rfl, .ty _, .inl upd_same, KP, (kitUps_get T.ups List.mem_cons_self).2.1, _, rfl, iteF ?_⟩
      refine fun e2 he2 => ?_
      have se2 := same_new (o := ExO (.ref T.C_PartsError) e2) he2
      refine ⟨e2, T.C_PartsError, fun _ => false, rfl, .inl upd_same, KP, fun j d hj => kitRow_get T.tabP (List.mem_of_getElem? hj), fun q5 H13 s13 hq5 => ?_⟩
      refine ⟨Nat.zero_le _, fun q6 hq6 => ?_⟩
      have sq6 := same_new (o := .lst []) hq6
      have em : (((List.range 38).filter fun _ => false).map fun j => V.int ((j : Nat) : Int)) = [] := by
        simp
      have hq5' : H13 q5 = some (.lst []) := by
        rw [← em]
        exact hq5
      refine ⟨.list [], .list [], .lst (SqL.of (sq6 _ _ hq5')) .nil, .lst (SqL.of upd_same) .nil, shaped_nil, shaped_nil, _, rfl, iteFe (by rw [eqv_nil]; rfl) ?_⟩
      exact ⟨_, _, _, _, _, _, _, rfl, sB.trans (se1.trans (se2.trans (s13.trans sq6)))⟩
    · rintro σ H1 ⟨v1, v2, v3, v4, v5, v6, v7, rfl, s1⟩
      exact k H1
end
def oexB (K : PySem.W.Frag) (C : Addr) : Bool := match K.lookup C with
  | some ⟨.type c, _, .cls cd, sl⟩ => decide (c = "type") && ((match cd.mro with
    | .ref a :: bm => decide (a = C) && PySem.HandSPX.refsVE bm
    | _ => false) && (cd.hasDict && (!cd.hasDel && (match sl.toList with
    | [_, _, _, _, some (.builtin i), _] => decide (i = "ValueError.__new__")
    | _ => false))))
  | _ => false
theorem oexB_ok {K : PySem.W.Frag} {C : Addr} (h : oexB K C = true) : ∃ nm q N bs bm sn sub ab col dd k0 k1 k2 k3 k5, K.lookup C = some (excClassObj nm q C N bs bm true sn sub ab col dd k0 k1 k2 k3 k5 "ValueError.__new__") ∧ PySem.HandSPX.refsVE bm = true := by
  unfold oexB at h
  split at h
  · rename_i c dd cd sl q
    obtain ⟨nm, bs, mro, N, qn, hd, sn, sub, ab, col, del⟩ := cd
    simp only [Bool.and_eq_true, decide_eq_true_iff, Bool.not_eq_true'] at h
    obtain ⟨h1, h2, h3, h4, h5⟩ := h
    split at h2
    · rename_i a bm
      rw [Bool.and_eq_true, decide_eq_true_iff] at h2
      obtain ⟨h6, h7⟩ := h2
      split at h5
      · rename_i k0 k1 k2 k3 i k5 e
        obtain ⟨sl⟩ := sl
        have e' : sl = [k0, k1, k2, k3, some (.builtin i), k5] := e
        have h8 := of_decide_eq_true h5
        subst h1 h3 h4 e' h6 h8
        exact ⟨nm, qn, N, bs, bm, sn, sub, ab, col, dd, k0, k1, k2, k3, k5, q, h7⟩
      · cases h5
    · cases h2
  · cases h
def clsX (K : PySem.W.Frag) (c : Str × Str) : Bool := oexB K (He.ga K c.1) && (decide (PySem.W.findIn K (.ref (He.ga K c.1)) "__setattr__" = some (some (.builtin "object.__setattr__"))) && (decide (PySem.W.typeIn K (.ref (He.ga K c.1)) = some (.type "type")) && (PySem.W.keepIn K (.ref (He.ga K c.1)) && (xfB K (He.ga K c.1) &&
  (decide (PySem.W.findIn K (.ref (He.ga K c.1)) c.2 = some none) && (decide (PySem.W.findIn K (.ref (He.ga K c.1)) "__init__" = some (some (.ref (He.ma K (He.ga K c.1) "__init__")))) && decide (PySem.W.typeIn K (.ref (He.ma K (He.ga K c.1) "__init__")) = some (.type "function"))))))))
theorem clsX_ok {K : PySem.W.Frag} {c f : Str} (h : clsX K (c, f) = true) : OexC K (He.ga K c) ∧ XfC K (He.ga K c) ∧ PySem.W.findIn K (.ref (He.ga K c)) f = some none ∧ PySem.W.findIn K (.ref (He.ga K c)) "__init__" = some (some (.ref (He.ma K (He.ga K c) "__init__"))) ∧ PySem.W.typeIn K (.ref (He.ma K (He.ga K c) "__init__")) = some (.type "function") := by
  unfold clsX at h
  simp only [Bool.and_eq_true, decide_eq_true_iff] at h
  obtain ⟨h1, h2, h3, h4, h5, h6, h7, h8⟩ := h
  have y := xfB_ok h5
  exact ⟨⟨oexB_ok h1, h2, y.exC, h3, h4⟩, y, h6, h7, h8⟩
theorem meth_kp {K : PySem.W.Frag} {x m : Str} (h : (He.Fa.meth x m).ok K = true) : PySem.W.keepIn K (.ref (He.ma K (He.ga K x) m)) = true := (He.meth_ok h).kp
def fd0 : He.FnD := ⟨("InvalidName", some "__init__"), "__init__", "InvalidName.__init__", defArgs s_InvalidName_init, defBody s_InvalidName_init, defScope s_InvalidName_init⟩
def fd1 : He.FnD := ⟨("InvalidKey", some "__init__"), "__init__", "InvalidKey.__init__", defArgs s_InvalidKey_init, defBody s_InvalidKey_init, defScope s_InvalidKey_init⟩
def fd2 : He.FnD := ⟨("InvalidSpan", some "__init__"), "__init__", "InvalidSpan.__init__", defArgs s_InvalidSpan_init, defBody s_InvalidSpan_init, defScope s_InvalidSpan_init⟩
def fd3 : He.FnD := ⟨("InvalidSpans", some "__init__"), "__init__", "InvalidSpans.__init__", defArgs s_InvalidSpans_init, defBody s_InvalidSpans_init, defScope s_InvalidSpans_init⟩
def fd4 : He.FnD := ⟨("InvalidCatalog", some "__init__"), "__init__", "InvalidCatalog.__init__", defArgs s_InvalidCatalog_init, defBody s_InvalidCatalog_init, defScope s_InvalidCatalog_init⟩
def fd5 : He.FnD := ⟨("InvalidChange", some "__init__"), "__init__", "InvalidChange.__init__", defArgs s_InvalidChange_init, defBody s_InvalidChange_init, defScope s_InvalidChange_init⟩
def fd6 : He.FnD := ⟨("InvalidModes", some "__init__"), "__init__", "InvalidModes.__init__", defArgs s_InvalidModes_init, defBody s_InvalidModes_init, defScope s_InvalidModes_init⟩
def fd7 : He.FnD := ⟨("InvalidClash", some "__init__"), "__init__", "InvalidClash.__init__", defArgs s_InvalidClash_init, defBody s_InvalidClash_init, defScope s_InvalidClash_init⟩
def fd8 : He.FnD := ⟨("InvalidStrengths", some "__init__"), "__init__", "InvalidStrengths.__init__", defArgs s_InvalidStrengths_init, defBody s_InvalidStrengths_init, defScope s_InvalidStrengths_init⟩
def fd9 : He.FnD := ⟨("InvalidProgram", some "__init__"), "__init__", "InvalidProgram.__init__", defArgs s_InvalidProgram_init, defBody s_InvalidProgram_init, defScope s_InvalidProgram_init⟩
def fd10 : He.FnD := ⟨("InvalidPrograms", some "__init__"), "__init__", "InvalidPrograms.__init__", defArgs s_InvalidPrograms_init, defBody s_InvalidPrograms_init, defScope s_InvalidPrograms_init⟩
def fd11 : He.FnD := ⟨("InvalidProtocol", some "__init__"), "__init__", "InvalidProtocol.__init__", defArgs s_InvalidProtocol_init, defBody s_InvalidProtocol_init, defScope s_InvalidProtocol_init⟩
def fd12 : He.FnD := ⟨("InvalidRows", some "__init__"), "__init__", "InvalidRows.__init__", defArgs s_InvalidRows_init, defBody s_InvalidRows_init, defScope s_InvalidRows_init⟩
def fd13 : He.FnD := ⟨("InvalidSession", some "__init__"), "__init__", "InvalidSession.__init__", defArgs s_InvalidSession_init, defBody s_InvalidSession_init, defScope s_InvalidSession_init⟩
def fd14 : He.FnD := ⟨("InvalidNumber", some "__init__"), "__init__", "InvalidNumber.__init__", defArgs s_InvalidNumber_init, defBody s_InvalidNumber_init, defScope s_InvalidNumber_init⟩
def fd15 : He.FnD := ⟨("InvalidWeaving", some "__init__"), "__init__", "InvalidWeaving.__init__", defArgs s_InvalidWeaving_init, defBody s_InvalidWeaving_init, defScope s_InvalidWeaving_init⟩
def fd16 : He.FnD := ⟨("InvalidStore", some "__init__"), "__init__", "InvalidStore.__init__", defArgs s_InvalidStore_init, defBody s_InvalidStore_init, defScope s_InvalidStore_init⟩
def fd17 : He.FnD := ⟨("InvalidScene", some "__init__"), "__init__", "InvalidScene.__init__", defArgs s_InvalidScene_init, defBody s_InvalidScene_init, defScope s_InvalidScene_init⟩
def fd18 : He.FnD := ⟨("InvalidLog", some "__init__"), "__init__", "InvalidLog.__init__", defArgs s_InvalidLog_init, defBody s_InvalidLog_init, defScope s_InvalidLog_init⟩
def fd19 : He.FnD := ⟨("InvalidText", some "__init__"), "__init__", "InvalidText.__init__", defArgs s_InvalidText_init, defBody s_InvalidText_init, defScope s_InvalidText_init⟩
def fd20 : He.FnD := ⟨("InvalidCommand", some "__init__"), "__init__", "InvalidCommand.__init__", defArgs s_InvalidCommand_init, defBody s_InvalidCommand_init, defScope s_InvalidCommand_init⟩
def fd21 : He.FnD := ⟨("Duplicate", some "__init__"), "__init__", "Duplicate.__init__", defArgs s_Duplicate_init, defBody s_Duplicate_init, defScope s_Duplicate_init⟩
def fd22 : He.FnD := ⟨("UnknownPart", some "__init__"), "__init__", "UnknownPart.__init__", defArgs s_UnknownPart_init, defBody s_UnknownPart_init, defScope s_UnknownPart_init⟩
def fd23 : He.FnD := ⟨("UnknownMode", some "__init__"), "__init__", "UnknownMode.__init__", defArgs s_UnknownMode_init, defBody s_UnknownMode_init, defScope s_UnknownMode_init⟩
def fd24 : He.FnD := ⟨("UnknownEntry", some "__init__"), "__init__", "UnknownEntry.__init__", defArgs s_UnknownEntry_init, defBody s_UnknownEntry_init, defScope s_UnknownEntry_init⟩
def fd25 : He.FnD := ⟨("NameTaken", some "__init__"), "__init__", "NameTaken.__init__", defArgs s_NameTaken_init, defBody s_NameTaken_init, defScope s_NameTaken_init⟩
def fd26 : He.FnD := ⟨("Overlap", some "__init__"), "__init__", "Overlap.__init__", defArgs s_Overlap_init, defBody s_Overlap_init, defScope s_Overlap_init⟩
def fd27 : He.FnD := ⟨("NotInside", some "__init__"), "__init__", "NotInside.__init__", defArgs s_NotInside_init, defBody s_NotInside_init, defScope s_NotInside_init⟩
def fd28 : He.FnD := ⟨("NotNeighbours", some "__init__"), "__init__", "NotNeighbours.__init__", defArgs s_NotNeighbours_init, defBody s_NotNeighbours_init, defScope s_NotNeighbours_init⟩
def fd29 : He.FnD := ⟨("NoProgram", some "__init__"), "__init__", "NoProgram.__init__", defArgs s_NoProgram_init, defBody s_NoProgram_init, defScope s_NoProgram_init⟩
def fd30 : He.FnD := ⟨("TooMany", some "__init__"), "__init__", "TooMany.__init__", defArgs s_TooMany_init, defBody s_TooMany_init, defScope s_TooMany_init⟩
def fd31 : He.FnD := ⟨("Ended", some "__init__"), "__init__", "Ended.__init__", defArgs s_Ended_init, defBody s_Ended_init, defScope s_Ended_init⟩
def fd32 : He.FnD := ⟨("Waiting", some "__init__"), "__init__", "Waiting.__init__", defArgs s_Waiting_init, defBody s_Waiting_init, defScope s_Waiting_init⟩
def fd33 : He.FnD := ⟨("_law_cell", none), "_law_cell", "_law_cell", defArgs s_law_cell, defBody s_law_cell, defScope s_law_cell⟩
def fd34 : He.FnD := ⟨("_law_box", none), "_law_box", "_law_box", defArgs s_law_box, defBody s_law_box, defScope s_law_box⟩
def fd35 : He.FnD := ⟨("_law_take", none), "_law_take", "_law_take", defArgs s_law_take, defBody s_law_take, defScope s_law_take⟩
def fd36 : He.FnD := ⟨("_law_made", none), "_law_made", "_law_made", defArgs s_law_made, defBody s_law_made, defScope s_law_made⟩
def fd37 : He.FnD := ⟨("_law_classes", none), "_law_classes", "_law_classes", defArgs s_law_classes, defBody s_law_classes, defScope s_law_classes⟩
def fd38 : He.FnD := ⟨("_law_fields", none), "_law_fields", "_law_fields", defArgs s_law_fields, defBody s_law_fields, defScope s_law_fields⟩
def fd39 : He.FnD := ⟨("_law_under", none), "_law_under", "_law_under", defArgs s_law_under, defBody s_law_under, defScope s_law_under⟩
def fd40 : He.FnD := ⟨("law", none), "law", "law", defArgs s_law, defBody s_law, defScope s_law⟩
def fnL : List He.FnD := [fd0, fd1, fd2, fd3, fd4, fd5, fd6, fd7, fd8, fd9, fd10, fd11, fd12, fd13, fd14, fd15, fd16, fd17, fd18, fd19, fd20, fd21, fd22, fd23, fd24, fd25, fd26, fd27, fd28, fd29, fd30, fd31, fd32, fd33, fd34, fd35, fd36, fd37, fd38, fd39, fd40]
def faL : List He.Fa := [.meth "InvalidName" "__init__", .meth "InvalidKey" "__init__", .meth "InvalidSpan" "__init__", .meth "InvalidSpans" "__init__", .meth "InvalidCatalog" "__init__", .meth "InvalidChange" "__init__", .meth "InvalidModes" "__init__", .meth "InvalidClash" "__init__", .meth "InvalidStrengths" "__init__", .meth "InvalidProgram" "__init__", .meth "InvalidPrograms" "__init__", .meth "InvalidProtocol" "__init__", .meth "InvalidRows" "__init__", .meth "InvalidSession" "__init__", .meth "InvalidNumber" "__init__", .meth "InvalidWeaving" "__init__", .meth "InvalidStore" "__init__", .meth "InvalidScene" "__init__", .meth "InvalidLog" "__init__", .meth "InvalidText" "__init__", .meth "InvalidCommand" "__init__", .meth "Duplicate" "__init__", .meth "UnknownPart" "__init__", .meth "UnknownMode" "__init__", .meth "UnknownEntry" "__init__", .meth "NameTaken" "__init__", .meth "Overlap" "__init__", .meth "NotInside" "__init__", .meth "NotNeighbours" "__init__", .meth "NoProgram" "__init__", .meth "TooMany" "__init__", .meth "Ended" "__init__", .meth "Waiting" "__init__", .keep "_law_cell", .glo "_law_cell", .keep "_law_box", .glo "_law_box", .keep "_law_take", .glo "_law_take", .keep "_law_made", .glo "_law_made", .keep "_law_classes", .glo "_law_classes", .keep "_law_fields", .glo "_law_fields", .keep "_law_under", .glo "_law_under", .keep "law", .glo "law", .glo "InvalidName", .glo "InvalidKey", .glo "InvalidSpan", .glo "InvalidSpans", .glo "InvalidCatalog", .glo "InvalidChange", .glo "InvalidModes", .glo "InvalidClash", .glo "InvalidStrengths", .glo "InvalidProgram", .glo "InvalidPrograms", .glo "InvalidProtocol", .glo "InvalidRows", .glo "InvalidSession", .glo "InvalidNumber", .glo "InvalidWeaving", .glo "InvalidStore", .glo "InvalidScene", .glo "InvalidLog", .glo "InvalidText", .glo "InvalidCommand", .glo "Duplicate", .glo "UnknownPart", .glo "UnknownMode", .glo "UnknownEntry", .glo "NameTaken", .glo "Overlap", .glo "NotInside", .glo "NotNeighbours", .glo "NoProgram", .glo "TooMany", .glo "Ended", .glo "Waiting", .glo "PartsError", .exc "PartsError", .glo "NothingBad", .exc "NothingBad", .glo "NotRight", .exc "NotRight", .glo "NoStore", .exc "NoStore", .glo "NothingToUndo", .exc "NothingToUndo", .glo "NothingToRedo", .exc "NothingToRedo", .free "len", .free "max", .free "isinstance", .free "range", .free "ValueError", .free "KeyError", .free "IndexError", .free "TypeError", .free "min", .free "bool"]
def clsL : List (Str × Str) := [(("InvalidName" : Str), ("value" : Str)), (("InvalidKey" : Str), ("value" : Str)), (("InvalidSpan" : Str), ("value" : Str)), (("InvalidSpans" : Str), ("value" : Str)), (("InvalidCatalog" : Str), ("value" : Str)), (("InvalidChange" : Str), ("value" : Str)), (("InvalidModes" : Str), ("value" : Str)), (("InvalidClash" : Str), ("value" : Str)), (("InvalidStrengths" : Str), ("value" : Str)), (("InvalidProgram" : Str), ("value" : Str)), (("InvalidPrograms" : Str), ("value" : Str)), (("InvalidProtocol" : Str), ("value" : Str)), (("InvalidRows" : Str), ("value" : Str)), (("InvalidSession" : Str), ("value" : Str)), (("InvalidNumber" : Str), ("value" : Str)), (("InvalidWeaving" : Str), ("value" : Str)), (("InvalidStore" : Str), ("value" : Str)), (("InvalidScene" : Str), ("value" : Str)), (("InvalidLog" : Str), ("value" : Str)), (("InvalidText" : Str), ("value" : Str)), (("InvalidCommand" : Str), ("value" : Str)), (("Duplicate" : Str), ("name" : Str)), (("UnknownPart" : Str), ("name" : Str)), (("UnknownMode" : Str), ("name" : Str)), (("UnknownEntry" : Str), ("name" : Str)), (("NameTaken" : Str), ("name" : Str)), (("Overlap" : Str), ("name" : Str)), (("NotInside" : Str), ("at" : Str)), (("NotNeighbours" : Str), ("name" : Str)), (("NoProgram" : Str), ("kind" : Str)), (("TooMany" : Str), ("bound" : Str)), (("Ended" : Str), ("number" : Str)), (("Waiting" : Str), ("number" : Str))]
def allC : List Str := [("InvalidName" : Str), ("InvalidKey" : Str), ("InvalidSpan" : Str), ("InvalidSpans" : Str), ("InvalidCatalog" : Str), ("InvalidChange" : Str), ("InvalidModes" : Str), ("InvalidClash" : Str), ("InvalidStrengths" : Str), ("InvalidProgram" : Str), ("InvalidPrograms" : Str), ("InvalidProtocol" : Str), ("InvalidRows" : Str), ("InvalidSession" : Str), ("InvalidNumber" : Str), ("InvalidWeaving" : Str), ("InvalidStore" : Str), ("InvalidScene" : Str), ("InvalidLog" : Str), ("InvalidText" : Str), ("InvalidCommand" : Str), ("Duplicate" : Str), ("UnknownPart" : Str), ("UnknownMode" : Str), ("UnknownEntry" : Str), ("NameTaken" : Str), ("Overlap" : Str), ("NotInside" : Str), ("NotNeighbours" : Str), ("NoProgram" : Str), ("TooMany" : Str), ("Ended" : Str), ("Waiting" : Str), ("NothingBad" : Str), ("NotRight" : Str), ("NoStore" : Str), ("NothingToUndo" : Str), ("NothingToRedo" : Str)]
def exB (K : PySem.W.Frag) : Bool := clsL.all (clsX K) && (kitsE K (He.ga K "PartsError" :: (allC.map (He.ga K))) && (kitTab K (allC.map (He.ga K)) && (kitRow K (He.ga K "PartsError") (allC.map (He.ga K)) && (kitUps K (He.ga K "PartsError") (He.ga K "PartsError" :: (allC.map (He.ga K)))))))
def obsM (g : Addr → Option Obj) : He.Al × Bool := (He.obsE faL fnL (He.frG g (He.asG g 5)), exB (He.frG g (He.asG g 5)))
def hookM : PySem.W.Hook where
  α := He.Al × Bool
  obs := fun s => obsM s.heap.get?
  val := fun _ => (He.valE fnL, true)
  says := fun _ h => ∃ K : PySem.W.Frag, K.In h ∧ He.SaysE faL fnL K ∧ exB K = true
  of := fun _ _ e => ⟨_, He.frG_in, congrArg (fun z : He.Al × Bool => z.1) e, congrArg (fun z : He.Al × Bool => z.2) e⟩
  keeps := fun _ _ _ ⟨K, hK, c⟩ k => ⟨K, PySem.W.Frag.In.keeps hK k, c⟩
theorem obsM_eq {g : Addr → Option Obj} {s : Shared} (h : ∀ a, g a = s.heap.get? a) : obsM g = hookM.obs s := by
  have e : g = s.heap.get? := funext h
  rw [e] <;> rfl
def loose0 : List Str := ["__name__", "PartsError", "InvalidName", "InvalidKey", "InvalidSpan", "InvalidSpans", "InvalidCatalog", "InvalidChange", "InvalidModes", "InvalidClash", "InvalidStrengths", "InvalidProgram", "InvalidPrograms", "InvalidProtocol", "InvalidRows", "InvalidSession", "InvalidNumber", "InvalidWeaving", "InvalidStore", "InvalidScene", "InvalidLog", "InvalidText", "InvalidCommand", "Duplicate", "UnknownPart", "UnknownMode", "UnknownEntry", "NameTaken", "Overlap", "NotInside"]
def loose1 : List Str := ["NotNeighbours", "NoProgram", "TooMany", "Ended", "Waiting", "NothingBad", "NotRight", "NoStore", "NothingToUndo", "NothingToRedo", "_law_cell", "_law_box", "_law_take", "_law_made", "_law_classes", "_law_fields", "_law_under"]
def looseL : List Str := loose0 ++ loose1
abbrev RW : PySem.W.OpenRow := PySem.W.OpenLaw.row PySem.Challenge.rw_hungparts_k04_exceptions_and_their_field
def obN (s : PySem.W.SharedT) : He.Al × Bool := obsM (HandSHeadRun.getT s)
theorem obN_eq (s : PySem.W.SharedT) : obN s = hookM.obs s.abs := obsM_eq (HandSHeadRun.getT_eq s)
theorem run (w : World) : HandSHeadRun.RunEq RW (PySem.W.view RW.prog [48]) hookM obN 12000 looseL w := by
  intro os
  kernel_rfl
theorem facts {P : Program} {w : World} {K : PySem.W.Frag} {h : Heap} {mg : Str → Option Value} {f : Addr} (X : K.In h) (G : h.Ns mainGlobals mg) (hfa : mg ("law" : Str) = some (.ref f)) (c : He.SaysE faL fnL K) (ex : exB K = true) :
    ∃ fd : FuncData, (∀ (s : Shared) (v : Value), BindsTo s fd ⟨[v], []⟩ [("_law_script", v)]) ∧ ∀ base : Heap, K.In base → base.Ns mainGlobals mg → FnOk P w K mg base CX0 4 f fd ["_law_script"] (sp_law K) := by
  have e := hfa.symm.trans (He.glo_ok X G (c.fact 48 (f := .glo "law") rfl))
  cases e
  have ex' := ex
  unfold exB at ex'
  simp only [Bool.and_eq_true] at ex'
  obtain ⟨e1, e2, e3, e4, e5⟩ := ex'
  obtain ⟨_, _, _, _, _, _, _, _, _, l0, c0⟩ := c.def_ 0 (d := fd0) rfl
  have k0 := meth_kp (c.fact 0 rfl)
  obtain ⟨_, _, _, _, _, _, _, _, _, l1, c1⟩ := c.def_ 1 (d := fd1) rfl
  have k1 := meth_kp (c.fact 1 rfl)
  obtain ⟨_, _, _, _, _, _, _, _, _, l2, c2⟩ := c.def_ 2 (d := fd2) rfl
  have k2 := meth_kp (c.fact 2 rfl)
  obtain ⟨_, _, _, _, _, _, _, _, _, l3, c3⟩ := c.def_ 3 (d := fd3) rfl
  have k3 := meth_kp (c.fact 3 rfl)
  obtain ⟨_, _, _, _, _, _, _, _, _, l4, c4⟩ := c.def_ 4 (d := fd4) rfl
  have k4 := meth_kp (c.fact 4 rfl)
  obtain ⟨_, _, _, _, _, _, _, _, _, l5, c5⟩ := c.def_ 5 (d := fd5) rfl
  have k5 := meth_kp (c.fact 5 rfl)
  obtain ⟨_, _, _, _, _, _, _, _, _, l6, c6⟩ := c.def_ 6 (d := fd6) rfl
  have k6 := meth_kp (c.fact 6 rfl)
  obtain ⟨_, _, _, _, _, _, _, _, _, l7, c7⟩ := c.def_ 7 (d := fd7) rfl
  have k7 := meth_kp (c.fact 7 rfl)
  obtain ⟨_, _, _, _, _, _, _, _, _, l8, c8⟩ := c.def_ 8 (d := fd8) rfl
  have k8 := meth_kp (c.fact 8 rfl)
  obtain ⟨_, _, _, _, _, _, _, _, _, l9, c9⟩ := c.def_ 9 (d := fd9) rfl
  have k9 := meth_kp (c.fact 9 rfl)
  obtain ⟨_, _, _, _, _, _, _, _, _, l10, c10⟩ := c.def_ 10 (d := fd10) rfl
  have k10 := meth_kp (c.fact 10 rfl)
  obtain ⟨_, _, _, _, _, _, _, _, _, l11, c11⟩ := c.def_ 11 (d := fd11) rfl
  have k11 := meth_kp (c.fact 11 rfl)
  obtain ⟨_, _, _, _, _, _, _, _, _, l12, c12⟩ := c.def_ 12 (d := fd12) rfl
  have k12 := meth_kp (c.fact 12 rfl)
  obtain ⟨_, _, _, _, _, _, _, _, _, l13, c13⟩ := c.def_ 13 (d := fd13) rfl
  have k13 := meth_kp (c.fact 13 rfl)
  obtain ⟨_, _, _, _, _, _, _, _, _, l14, c14⟩ := c.def_ 14 (d := fd14) rfl
  have k14 := meth_kp (c.fact 14 rfl)
  obtain ⟨_, _, _, _, _, _, _, _, _, l15, c15⟩ := c.def_ 15 (d := fd15) rfl
  have k15 := meth_kp (c.fact 15 rfl)
  obtain ⟨_, _, _, _, _, _, _, _, _, l16, c16⟩ := c.def_ 16 (d := fd16) rfl
  have k16 := meth_kp (c.fact 16 rfl)
  obtain ⟨_, _, _, _, _, _, _, _, _, l17, c17⟩ := c.def_ 17 (d := fd17) rfl
  have k17 := meth_kp (c.fact 17 rfl)
  obtain ⟨_, _, _, _, _, _, _, _, _, l18, c18⟩ := c.def_ 18 (d := fd18) rfl
  have k18 := meth_kp (c.fact 18 rfl)
  obtain ⟨_, _, _, _, _, _, _, _, _, l19, c19⟩ := c.def_ 19 (d := fd19) rfl
  have k19 := meth_kp (c.fact 19 rfl)
  obtain ⟨_, _, _, _, _, _, _, _, _, l20, c20⟩ := c.def_ 20 (d := fd20) rfl
  have k20 := meth_kp (c.fact 20 rfl)
  obtain ⟨_, _, _, _, _, _, _, _, _, l21, c21⟩ := c.def_ 21 (d := fd21) rfl
  have k21 := meth_kp (c.fact 21 rfl)
  obtain ⟨_, _, _, _, _, _, _, _, _, l22, c22⟩ := c.def_ 22 (d := fd22) rfl
  have k22 := meth_kp (c.fact 22 rfl)
  obtain ⟨_, _, _, _, _, _, _, _, _, l23, c23⟩ := c.def_ 23 (d := fd23) rfl
  have k23 := meth_kp (c.fact 23 rfl)
  obtain ⟨_, _, _, _, _, _, _, _, _, l24, c24⟩ := c.def_ 24 (d := fd24) rfl
  have k24 := meth_kp (c.fact 24 rfl)
  obtain ⟨_, _, _, _, _, _, _, _, _, l25, c25⟩ := c.def_ 25 (d := fd25) rfl
  have k25 := meth_kp (c.fact 25 rfl)
  obtain ⟨_, _, _, _, _, _, _, _, _, l26, c26⟩ := c.def_ 26 (d := fd26) rfl
  have k26 := meth_kp (c.fact 26 rfl)
  obtain ⟨_, _, _, _, _, _, _, _, _, l27, c27⟩ := c.def_ 27 (d := fd27) rfl
  have k27 := meth_kp (c.fact 27 rfl)
  obtain ⟨_, _, _, _, _, _, _, _, _, l28, c28⟩ := c.def_ 28 (d := fd28) rfl
  have k28 := meth_kp (c.fact 28 rfl)
  obtain ⟨_, _, _, _, _, _, _, _, _, l29, c29⟩ := c.def_ 29 (d := fd29) rfl
  have k29 := meth_kp (c.fact 29 rfl)
  obtain ⟨_, _, _, _, _, _, _, _, _, l30, c30⟩ := c.def_ 30 (d := fd30) rfl
  have k30 := meth_kp (c.fact 30 rfl)
  obtain ⟨_, _, _, _, _, _, _, _, _, l31, c31⟩ := c.def_ 31 (d := fd31) rfl
  have k31 := meth_kp (c.fact 31 rfl)
  obtain ⟨_, _, _, _, _, _, _, _, _, l32, c32⟩ := c.def_ 32 (d := fd32) rfl
  have k32 := meth_kp (c.fact 32 rfl)
  obtain ⟨_, _, _, _, _, _, _, _, _, l33, c33⟩ := c.def_ 33 (d := fd33) rfl
  have k33 := He.keep_ok (x := "_law_cell") (c.fact 33 rfl)
  obtain ⟨_, _, _, _, _, _, _, _, _, l34, c34⟩ := c.def_ 34 (d := fd34) rfl
  have k34 := He.keep_ok (x := "_law_box") (c.fact 35 rfl)
  obtain ⟨_, _, _, _, _, _, _, _, _, l35, c35⟩ := c.def_ 35 (d := fd35) rfl
  have k35 := He.keep_ok (x := "_law_take") (c.fact 37 rfl)
  obtain ⟨_, _, _, _, _, _, _, _, _, l36, c36⟩ := c.def_ 36 (d := fd36) rfl
  have k36 := He.keep_ok (x := "_law_made") (c.fact 39 rfl)
  obtain ⟨_, _, _, _, _, _, _, _, _, l37, c37⟩ := c.def_ 37 (d := fd37) rfl
  have k37 := He.keep_ok (x := "_law_classes") (c.fact 41 rfl)
  obtain ⟨_, _, _, _, _, _, _, _, _, l38, c38⟩ := c.def_ 38 (d := fd38) rfl
  have k38 := He.keep_ok (x := "_law_fields") (c.fact 43 rfl)
  obtain ⟨_, _, _, _, _, _, _, _, _, l39, c39⟩ := c.def_ 39 (d := fd39) rfl
  have k39 := He.keep_ok (x := "_law_under") (c.fact 45 rfl)
  obtain ⟨_, _, _, _, _, _, _, _, _, l40, c40⟩ := c.def_ 40 (d := fd40) rfl
  have k40 := He.keep_ok (x := "law") (c.fact 47 rfl)
  have z0 := clsX_ok (List.all_eq_true.mp e1 ("InvalidName", "value") (List.mem_of_getElem? (i := 0) rfl))
  have z1 := clsX_ok (List.all_eq_true.mp e1 ("InvalidKey", "value") (List.mem_of_getElem? (i := 1) rfl))
  have z2 := clsX_ok (List.all_eq_true.mp e1 ("InvalidSpan", "value") (List.mem_of_getElem? (i := 2) rfl))
  have z3 := clsX_ok (List.all_eq_true.mp e1 ("InvalidSpans", "value") (List.mem_of_getElem? (i := 3) rfl))
  have z4 := clsX_ok (List.all_eq_true.mp e1 ("InvalidCatalog", "value") (List.mem_of_getElem? (i := 4) rfl))
  have z5 := clsX_ok (List.all_eq_true.mp e1 ("InvalidChange", "value") (List.mem_of_getElem? (i := 5) rfl))
  have z6 := clsX_ok (List.all_eq_true.mp e1 ("InvalidModes", "value") (List.mem_of_getElem? (i := 6) rfl))
  have z7 := clsX_ok (List.all_eq_true.mp e1 ("InvalidClash", "value") (List.mem_of_getElem? (i := 7) rfl))
  have z8 := clsX_ok (List.all_eq_true.mp e1 ("InvalidStrengths", "value") (List.mem_of_getElem? (i := 8) rfl))
  have z9 := clsX_ok (List.all_eq_true.mp e1 ("InvalidProgram", "value") (List.mem_of_getElem? (i := 9) rfl))
  have z10 := clsX_ok (List.all_eq_true.mp e1 ("InvalidPrograms", "value") (List.mem_of_getElem? (i := 10) rfl))
  have z11 := clsX_ok (List.all_eq_true.mp e1 ("InvalidProtocol", "value") (List.mem_of_getElem? (i := 11) rfl))
  have z12 := clsX_ok (List.all_eq_true.mp e1 ("InvalidRows", "value") (List.mem_of_getElem? (i := 12) rfl))
  have z13 := clsX_ok (List.all_eq_true.mp e1 ("InvalidSession", "value") (List.mem_of_getElem? (i := 13) rfl))
  have z14 := clsX_ok (List.all_eq_true.mp e1 ("InvalidNumber", "value") (List.mem_of_getElem? (i := 14) rfl))
  have z15 := clsX_ok (List.all_eq_true.mp e1 ("InvalidWeaving", "value") (List.mem_of_getElem? (i := 15) rfl))
  have z16 := clsX_ok (List.all_eq_true.mp e1 ("InvalidStore", "value") (List.mem_of_getElem? (i := 16) rfl))
  have z17 := clsX_ok (List.all_eq_true.mp e1 ("InvalidScene", "value") (List.mem_of_getElem? (i := 17) rfl))
  have z18 := clsX_ok (List.all_eq_true.mp e1 ("InvalidLog", "value") (List.mem_of_getElem? (i := 18) rfl))
  have z19 := clsX_ok (List.all_eq_true.mp e1 ("InvalidText", "value") (List.mem_of_getElem? (i := 19) rfl))
  have z20 := clsX_ok (List.all_eq_true.mp e1 ("InvalidCommand", "value") (List.mem_of_getElem? (i := 20) rfl))
  have z21 := clsX_ok (List.all_eq_true.mp e1 ("Duplicate", "name") (List.mem_of_getElem? (i := 21) rfl))
  have z22 := clsX_ok (List.all_eq_true.mp e1 ("UnknownPart", "name") (List.mem_of_getElem? (i := 22) rfl))
  have z23 := clsX_ok (List.all_eq_true.mp e1 ("UnknownMode", "name") (List.mem_of_getElem? (i := 23) rfl))
  have z24 := clsX_ok (List.all_eq_true.mp e1 ("UnknownEntry", "name") (List.mem_of_getElem? (i := 24) rfl))
  have z25 := clsX_ok (List.all_eq_true.mp e1 ("NameTaken", "name") (List.mem_of_getElem? (i := 25) rfl))
  have z26 := clsX_ok (List.all_eq_true.mp e1 ("Overlap", "name") (List.mem_of_getElem? (i := 26) rfl))
  have z27 := clsX_ok (List.all_eq_true.mp e1 ("NotInside", "at") (List.mem_of_getElem? (i := 27) rfl))
  have z28 := clsX_ok (List.all_eq_true.mp e1 ("NotNeighbours", "name") (List.mem_of_getElem? (i := 28) rfl))
  have z29 := clsX_ok (List.all_eq_true.mp e1 ("NoProgram", "kind") (List.mem_of_getElem? (i := 29) rfl))
  have z30 := clsX_ok (List.all_eq_true.mp e1 ("TooMany", "bound") (List.mem_of_getElem? (i := 30) rfl))
  have z31 := clsX_ok (List.all_eq_true.mp e1 ("Ended", "number") (List.mem_of_getElem? (i := 31) rfl))
  have z32 := clsX_ok (List.all_eq_true.mp e1 ("Waiting", "number") (List.mem_of_getElem? (i := 32) rfl))
  let T : Txt K mg := {
    f_InvalidName_init := He.fAd K fd0.at_, fd_InvalidName_init := _, F_InvalidName_init := fun_mk (st := s_InvalidName_init) l0 c0 k0, b_InvalidName_init := (fun_mk (st := s_InvalidName_init) l0 c0 k0).binds (ps := ["self", "value"]) fun _ _ _ _ _ _ us hl => match us, hl with | [_, _], _ => rfl,
    f_InvalidKey_init := He.fAd K fd1.at_, fd_InvalidKey_init := _, F_InvalidKey_init := fun_mk (st := s_InvalidKey_init) l1 c1 k1, b_InvalidKey_init := (fun_mk (st := s_InvalidKey_init) l1 c1 k1).binds (ps := ["self", "value"]) fun _ _ _ _ _ _ us hl => match us, hl with | [_, _], _ => rfl,
    f_InvalidSpan_init := He.fAd K fd2.at_, fd_InvalidSpan_init := _, F_InvalidSpan_init := fun_mk (st := s_InvalidSpan_init) l2 c2 k2, b_InvalidSpan_init := (fun_mk (st := s_InvalidSpan_init) l2 c2 k2).binds (ps := ["self", "value"]) fun _ _ _ _ _ _ us hl => match us, hl with | [_, _], _ => rfl,
    f_InvalidSpans_init := He.fAd K fd3.at_, fd_InvalidSpans_init := _, F_InvalidSpans_init := fun_mk (st := s_InvalidSpans_init) l3 c3 k3, b_InvalidSpans_init := (fun_mk (st := s_InvalidSpans_init) l3 c3 k3).binds (ps := ["self", "value"]) fun _ _ _ _ _ _ us hl => match us, hl with | [_, _], _ => rfl,
    f_InvalidCatalog_init := He.fAd K fd4.at_, fd_InvalidCatalog_init := _, F_InvalidCatalog_init := fun_mk (st := s_InvalidCatalog_init) l4 c4 k4, b_InvalidCatalog_init := (fun_mk (st := s_InvalidCatalog_init) l4 c4 k4).binds (ps := ["self", "value"]) fun _ _ _ _ _ _ us hl => match us, hl with | [_, _], _ => rfl,
    f_InvalidChange_init := He.fAd K fd5.at_, fd_InvalidChange_init := _, F_InvalidChange_init := fun_mk (st := s_InvalidChange_init) l5 c5 k5, b_InvalidChange_init := (fun_mk (st := s_InvalidChange_init) l5 c5 k5).binds (ps := ["self", "value"]) fun _ _ _ _ _ _ us hl => match us, hl with | [_, _], _ => rfl,
    f_InvalidModes_init := He.fAd K fd6.at_, fd_InvalidModes_init := _, F_InvalidModes_init := fun_mk (st := s_InvalidModes_init) l6 c6 k6, b_InvalidModes_init := (fun_mk (st := s_InvalidModes_init) l6 c6 k6).binds (ps := ["self", "value"]) fun _ _ _ _ _ _ us hl => match us, hl with | [_, _], _ => rfl,
    f_InvalidClash_init := He.fAd K fd7.at_, fd_InvalidClash_init := _, F_InvalidClash_init := fun_mk (st := s_InvalidClash_init) l7 c7 k7, b_InvalidClash_init := (fun_mk (st := s_InvalidClash_init) l7 c7 k7).binds (ps := ["self", "value"]) fun _ _ _ _ _ _ us hl => match us, hl with | [_, _], _ => rfl,
    f_InvalidStrengths_init := He.fAd K fd8.at_, fd_InvalidStrengths_init := _, F_InvalidStrengths_init := fun_mk (st := s_InvalidStrengths_init) l8 c8 k8, b_InvalidStrengths_init := (fun_mk (st := s_InvalidStrengths_init) l8 c8 k8).binds (ps := ["self", "value"]) fun _ _ _ _ _ _ us hl => match us, hl with | [_, _], _ => rfl,
    f_InvalidProgram_init := He.fAd K fd9.at_, fd_InvalidProgram_init := _, F_InvalidProgram_init := fun_mk (st := s_InvalidProgram_init) l9 c9 k9, b_InvalidProgram_init := (fun_mk (st := s_InvalidProgram_init) l9 c9 k9).binds (ps := ["self", "value"]) fun _ _ _ _ _ _ us hl => match us, hl with | [_, _], _ => rfl,
    f_InvalidPrograms_init := He.fAd K fd10.at_, fd_InvalidPrograms_init := _, F_InvalidPrograms_init := fun_mk (st := s_InvalidPrograms_init) l10 c10 k10, b_InvalidPrograms_init := (fun_mk (st := s_InvalidPrograms_init) l10 c10 k10).binds (ps := ["self", "value"]) fun _ _ _ _ _ _ us hl => match us, hl with | [_, _], _ => rfl,
    f_InvalidProtocol_init := He.fAd K fd11.at_, fd_InvalidProtocol_init := _, F_InvalidProtocol_init := fun_mk (st := s_InvalidProtocol_init) l11 c11 k11, b_InvalidProtocol_init := (fun_mk (st := s_InvalidProtocol_init) l11 c11 k11).binds (ps := ["self", "value"]) fun _ _ _ _ _ _ us hl => match us, hl with | [_, _], _ => rfl,
    f_InvalidRows_init := He.fAd K fd12.at_, fd_InvalidRows_init := _, F_InvalidRows_init := fun_mk (st := s_InvalidRows_init) l12 c12 k12, b_InvalidRows_init := (fun_mk (st := s_InvalidRows_init) l12 c12 k12).binds (ps := ["self", "value"]) fun _ _ _ _ _ _ us hl => match us, hl with | [_, _], _ => rfl,
    f_InvalidSession_init := He.fAd K fd13.at_, fd_InvalidSession_init := _, F_InvalidSession_init := fun_mk (st := s_InvalidSession_init) l13 c13 k13, b_InvalidSession_init := (fun_mk (st := s_InvalidSession_init) l13 c13 k13).binds (ps := ["self", "value"]) fun _ _ _ _ _ _ us hl => match us, hl with | [_, _], _ => rfl,
    f_InvalidNumber_init := He.fAd K fd14.at_, fd_InvalidNumber_init := _, F_InvalidNumber_init := fun_mk (st := s_InvalidNumber_init) l14 c14 k14, b_InvalidNumber_init := (fun_mk (st := s_InvalidNumber_init) l14 c14 k14).binds (ps := ["self", "value"]) fun _ _ _ _ _ _ us hl => match us, hl with | [_, _], _ => rfl,
    f_InvalidWeaving_init := He.fAd K fd15.at_, fd_InvalidWeaving_init := _, F_InvalidWeaving_init := fun_mk (st := s_InvalidWeaving_init) l15 c15 k15, b_InvalidWeaving_init := (fun_mk (st := s_InvalidWeaving_init) l15 c15 k15).binds (ps := ["self", "value"]) fun _ _ _ _ _ _ us hl => match us, hl with | [_, _], _ => rfl,
    f_InvalidStore_init := He.fAd K fd16.at_, fd_InvalidStore_init := _, F_InvalidStore_init := fun_mk (st := s_InvalidStore_init) l16 c16 k16, b_InvalidStore_init := (fun_mk (st := s_InvalidStore_init) l16 c16 k16).binds (ps := ["self", "value"]) fun _ _ _ _ _ _ us hl => match us, hl with | [_, _], _ => rfl,
    f_InvalidScene_init := He.fAd K fd17.at_, fd_InvalidScene_init := _, F_InvalidScene_init := fun_mk (st := s_InvalidScene_init) l17 c17 k17, b_InvalidScene_init := (fun_mk (st := s_InvalidScene_init) l17 c17 k17).binds (ps := ["self", "value"]) fun _ _ _ _ _ _ us hl => match us, hl with | [_, _], _ => rfl,
    f_InvalidLog_init := He.fAd K fd18.at_, fd_InvalidLog_init := _, F_InvalidLog_init := fun_mk (st := s_InvalidLog_init) l18 c18 k18, b_InvalidLog_init := (fun_mk (st := s_InvalidLog_init) l18 c18 k18).binds (ps := ["self", "value"]) fun _ _ _ _ _ _ us hl => match us, hl with | [_, _], _ => rfl,
    f_InvalidText_init := He.fAd K fd19.at_, fd_InvalidText_init := _, F_InvalidText_init := fun_mk (st := s_InvalidText_init) l19 c19 k19, b_InvalidText_init := (fun_mk (st := s_InvalidText_init) l19 c19 k19).binds (ps := ["self", "value"]) fun _ _ _ _ _ _ us hl => match us, hl with | [_, _], _ => rfl,
    f_InvalidCommand_init := He.fAd K fd20.at_, fd_InvalidCommand_init := _, F_InvalidCommand_init := fun_mk (st := s_InvalidCommand_init) l20 c20 k20, b_InvalidCommand_init := (fun_mk (st := s_InvalidCommand_init) l20 c20 k20).binds (ps := ["self", "value"]) fun _ _ _ _ _ _ us hl => match us, hl with | [_, _], _ => rfl,
    f_Duplicate_init := He.fAd K fd21.at_, fd_Duplicate_init := _, F_Duplicate_init := fun_mk (st := s_Duplicate_init) l21 c21 k21, b_Duplicate_init := (fun_mk (st := s_Duplicate_init) l21 c21 k21).binds (ps := ["self", "name"]) fun _ _ _ _ _ _ us hl => match us, hl with | [_, _], _ => rfl,
    f_UnknownPart_init := He.fAd K fd22.at_, fd_UnknownPart_init := _, F_UnknownPart_init := fun_mk (st := s_UnknownPart_init) l22 c22 k22, b_UnknownPart_init := (fun_mk (st := s_UnknownPart_init) l22 c22 k22).binds (ps := ["self", "name"]) fun _ _ _ _ _ _ us hl => match us, hl with | [_, _], _ => rfl,
    f_UnknownMode_init := He.fAd K fd23.at_, fd_UnknownMode_init := _, F_UnknownMode_init := fun_mk (st := s_UnknownMode_init) l23 c23 k23, b_UnknownMode_init := (fun_mk (st := s_UnknownMode_init) l23 c23 k23).binds (ps := ["self", "name"]) fun _ _ _ _ _ _ us hl => match us, hl with | [_, _], _ => rfl,
    f_UnknownEntry_init := He.fAd K fd24.at_, fd_UnknownEntry_init := _, F_UnknownEntry_init := fun_mk (st := s_UnknownEntry_init) l24 c24 k24, b_UnknownEntry_init := (fun_mk (st := s_UnknownEntry_init) l24 c24 k24).binds (ps := ["self", "name"]) fun _ _ _ _ _ _ us hl => match us, hl with | [_, _], _ => rfl,
    f_NameTaken_init := He.fAd K fd25.at_, fd_NameTaken_init := _, F_NameTaken_init := fun_mk (st := s_NameTaken_init) l25 c25 k25, b_NameTaken_init := (fun_mk (st := s_NameTaken_init) l25 c25 k25).binds (ps := ["self", "name"]) fun _ _ _ _ _ _ us hl => match us, hl with | [_, _], _ => rfl,
    f_Overlap_init := He.fAd K fd26.at_, fd_Overlap_init := _, F_Overlap_init := fun_mk (st := s_Overlap_init) l26 c26 k26, b_Overlap_init := (fun_mk (st := s_Overlap_init) l26 c26 k26).binds (ps := ["self", "name"]) fun _ _ _ _ _ _ us hl => match us, hl with | [_, _], _ => rfl,
    f_NotInside_init := He.fAd K fd27.at_, fd_NotInside_init := _, F_NotInside_init := fun_mk (st := s_NotInside_init) l27 c27 k27, b_NotInside_init := (fun_mk (st := s_NotInside_init) l27 c27 k27).binds (ps := ["self", "at"]) fun _ _ _ _ _ _ us hl => match us, hl with | [_, _], _ => rfl,
    f_NotNeighbours_init := He.fAd K fd28.at_, fd_NotNeighbours_init := _, F_NotNeighbours_init := fun_mk (st := s_NotNeighbours_init) l28 c28 k28, b_NotNeighbours_init := (fun_mk (st := s_NotNeighbours_init) l28 c28 k28).binds (ps := ["self", "name"]) fun _ _ _ _ _ _ us hl => match us, hl with | [_, _], _ => rfl,
    f_NoProgram_init := He.fAd K fd29.at_, fd_NoProgram_init := _, F_NoProgram_init := fun_mk (st := s_NoProgram_init) l29 c29 k29, b_NoProgram_init := (fun_mk (st := s_NoProgram_init) l29 c29 k29).binds (ps := ["self", "kind"]) fun _ _ _ _ _ _ us hl => match us, hl with | [_, _], _ => rfl,
    f_TooMany_init := He.fAd K fd30.at_, fd_TooMany_init := _, F_TooMany_init := fun_mk (st := s_TooMany_init) l30 c30 k30, b_TooMany_init := (fun_mk (st := s_TooMany_init) l30 c30 k30).binds (ps := ["self", "bound"]) fun _ _ _ _ _ _ us hl => match us, hl with | [_, _], _ => rfl,
    f_Ended_init := He.fAd K fd31.at_, fd_Ended_init := _, F_Ended_init := fun_mk (st := s_Ended_init) l31 c31 k31, b_Ended_init := (fun_mk (st := s_Ended_init) l31 c31 k31).binds (ps := ["self", "number"]) fun _ _ _ _ _ _ us hl => match us, hl with | [_, _], _ => rfl,
    f_Waiting_init := He.fAd K fd32.at_, fd_Waiting_init := _, F_Waiting_init := fun_mk (st := s_Waiting_init) l32 c32 k32, b_Waiting_init := (fun_mk (st := s_Waiting_init) l32 c32 k32).binds (ps := ["self", "number"]) fun _ _ _ _ _ _ us hl => match us, hl with | [_, _], _ => rfl,
    f_law_cell := He.fAd K fd33.at_, fd_law_cell := _, F_law_cell := fun_mk (st := s_law_cell) l33 c33 k33, b_law_cell := (fun_mk (st := s_law_cell) l33 c33 k33).binds (ps := ["_law_script", "_law_k"]) fun _ _ _ _ _ _ us hl => match us, hl with | [_, _], _ => rfl, m_law_cell := He.glo_ok X G (c.fact 34 (f := .glo "_law_cell") rfl),
    f_law_box := He.fAd K fd34.at_, fd_law_box := _, F_law_box := fun_mk (st := s_law_box) l34 c34 k34, b_law_box := (fun_mk (st := s_law_box) l34 c34 k34).binds (ps := ["_law_cell_here"]) fun _ _ _ _ _ _ us hl => match us, hl with | [_], _ => rfl, m_law_box := He.glo_ok X G (c.fact 36 (f := .glo "_law_box") rfl),
    f_law_take := He.fAd K fd35.at_, fd_law_take := _, F_law_take := fun_mk (st := s_law_take) l35 c35 k35, b_law_take := (fun_mk (st := s_law_take) l35 c35 k35).binds (ps := ["_law_box_here", "_law_many"]) fun _ _ _ _ _ _ us hl => match us, hl with | [_, _], _ => rfl, m_law_take := He.glo_ok X G (c.fact 38 (f := .glo "_law_take") rfl),
    f_law_made := He.fAd K fd36.at_, fd_law_made := _, F_law_made := fun_mk (st := s_law_made) l36 c36 k36, b_law_made := (fun_mk (st := s_law_made) l36 c36 k36).binds (ps := ["_law_thing"]) fun _ _ _ _ _ _ us hl => match us, hl with | [_], _ => rfl, m_law_made := He.glo_ok X G (c.fact 40 (f := .glo "_law_made") rfl),
    f_law_classes := He.fAd K fd37.at_, fd_law_classes := _, F_law_classes := fun_mk (st := s_law_classes) l37 c37 k37, b_law_classes := (fun_mk (st := s_law_classes) l37 c37 k37).binds (ps := ["_law_error"]) fun _ _ _ _ _ _ us hl => match us, hl with | [_], _ => rfl, m_law_classes := He.glo_ok X G (c.fact 42 (f := .glo "_law_classes") rfl),
    f_law_fields := He.fAd K fd38.at_, fd_law_fields := _, F_law_fields := fun_mk (st := s_law_fields) l38 c38 k38, b_law_fields := (fun_mk (st := s_law_fields) l38 c38 k38).binds (ps := ["_law_made_here"]) fun _ _ _ _ _ _ us hl => match us, hl with | [_], _ => rfl, m_law_fields := He.glo_ok X G (c.fact 44 (f := .glo "_law_fields") rfl),
    f_law_under := He.fAd K fd39.at_, fd_law_under := _, F_law_under := fun_mk (st := s_law_under) l39 c39 k39, b_law_under := (fun_mk (st := s_law_under) l39 c39 k39).binds (ps := ["_law_error"]) fun _ _ _ _ _ _ us hl => match us, hl with | [_], _ => rfl, m_law_under := He.glo_ok X G (c.fact 46 (f := .glo "_law_under") rfl),
    f_law := He.fAd K fd40.at_, fd_law := _, F_law := fun_mk (st := s_law) l40 c40 k40, b_law := (fun_mk (st := s_law) l40 c40 k40).binds (ps := ["_law_script"]) fun _ _ _ _ _ _ us hl => match us, hl with | [_], _ => rfl, m_law := He.glo_ok X G (c.fact 48 (f := .glo "law") rfl),
    C_InvalidName := He.ga K "InvalidName", g_InvalidName := He.glo_ok X G (c.fact 49 (f := .glo "InvalidName") rfl), x_InvalidName := z0.1, y_InvalidName := z0.2.1, n_InvalidName := z0.2.2.1, i_InvalidName := z0.2.2.2.1, t_InvalidName := z0.2.2.2.2,
    C_InvalidKey := He.ga K "InvalidKey", g_InvalidKey := He.glo_ok X G (c.fact 50 (f := .glo "InvalidKey") rfl), x_InvalidKey := z1.1, y_InvalidKey := z1.2.1, n_InvalidKey := z1.2.2.1, i_InvalidKey := z1.2.2.2.1, t_InvalidKey := z1.2.2.2.2,
    C_InvalidSpan := He.ga K "InvalidSpan", g_InvalidSpan := He.glo_ok X G (c.fact 51 (f := .glo "InvalidSpan") rfl), x_InvalidSpan := z2.1, y_InvalidSpan := z2.2.1, n_InvalidSpan := z2.2.2.1, i_InvalidSpan := z2.2.2.2.1, t_InvalidSpan := z2.2.2.2.2,
    C_InvalidSpans := He.ga K "InvalidSpans", g_InvalidSpans := He.glo_ok X G (c.fact 52 (f := .glo "InvalidSpans") rfl), x_InvalidSpans := z3.1, y_InvalidSpans := z3.2.1, n_InvalidSpans := z3.2.2.1, i_InvalidSpans := z3.2.2.2.1, t_InvalidSpans := z3.2.2.2.2,
    C_InvalidCatalog := He.ga K "InvalidCatalog", g_InvalidCatalog := He.glo_ok X G (c.fact 53 (f := .glo "InvalidCatalog") rfl), x_InvalidCatalog := z4.1, y_InvalidCatalog := z4.2.1, n_InvalidCatalog := z4.2.2.1, i_InvalidCatalog := z4.2.2.2.1, t_InvalidCatalog := z4.2.2.2.2,
    C_InvalidChange := He.ga K "InvalidChange", g_InvalidChange := He.glo_ok X G (c.fact 54 (f := .glo "InvalidChange") rfl), x_InvalidChange := z5.1, y_InvalidChange := z5.2.1, n_InvalidChange := z5.2.2.1, i_InvalidChange := z5.2.2.2.1, t_InvalidChange := z5.2.2.2.2,
    C_InvalidModes := He.ga K "InvalidModes", g_InvalidModes := He.glo_ok X G (c.fact 55 (f := .glo "InvalidModes") rfl), x_InvalidModes := z6.1, y_InvalidModes := z6.2.1, n_InvalidModes := z6.2.2.1, i_InvalidModes := z6.2.2.2.1, t_InvalidModes := z6.2.2.2.2,
    C_InvalidClash := He.ga K "InvalidClash", g_InvalidClash := He.glo_ok X G (c.fact 56 (f := .glo "InvalidClash") rfl), x_InvalidClash := z7.1, y_InvalidClash := z7.2.1, n_InvalidClash := z7.2.2.1, i_InvalidClash := z7.2.2.2.1, t_InvalidClash := z7.2.2.2.2,
    C_InvalidStrengths := He.ga K "InvalidStrengths", g_InvalidStrengths := He.glo_ok X G (c.fact 57 (f := .glo "InvalidStrengths") rfl), x_InvalidStrengths := z8.1, y_InvalidStrengths := z8.2.1, n_InvalidStrengths := z8.2.2.1, i_InvalidStrengths := z8.2.2.2.1, t_InvalidStrengths := z8.2.2.2.2,
    C_InvalidProgram := He.ga K "InvalidProgram", g_InvalidProgram := He.glo_ok X G (c.fact 58 (f := .glo "InvalidProgram") rfl), x_InvalidProgram := z9.1, y_InvalidProgram := z9.2.1, n_InvalidProgram := z9.2.2.1, i_InvalidProgram := z9.2.2.2.1, t_InvalidProgram := z9.2.2.2.2,
    C_InvalidPrograms := He.ga K "InvalidPrograms", g_InvalidPrograms := He.glo_ok X G (c.fact 59 (f := .glo "InvalidPrograms") rfl), x_InvalidPrograms := z10.1, y_InvalidPrograms := z10.2.1, n_InvalidPrograms := z10.2.2.1, i_InvalidPrograms := z10.2.2.2.1, t_InvalidPrograms := z10.2.2.2.2,
    C_InvalidProtocol := He.ga K "InvalidProtocol", g_InvalidProtocol := He.glo_ok X G (c.fact 60 (f := .glo "InvalidProtocol") rfl), x_InvalidProtocol := z11.1, y_InvalidProtocol := z11.2.1, n_InvalidProtocol := z11.2.2.1, i_InvalidProtocol := z11.2.2.2.1, t_InvalidProtocol := z11.2.2.2.2,
    C_InvalidRows := He.ga K "InvalidRows", g_InvalidRows := He.glo_ok X G (c.fact 61 (f := .glo "InvalidRows") rfl), x_InvalidRows := z12.1, y_InvalidRows := z12.2.1, n_InvalidRows := z12.2.2.1, i_InvalidRows := z12.2.2.2.1, t_InvalidRows := z12.2.2.2.2,
    C_InvalidSession := He.ga K "InvalidSession", g_InvalidSession := He.glo_ok X G (c.fact 62 (f := .glo "InvalidSession") rfl), x_InvalidSession := z13.1, y_InvalidSession := z13.2.1, n_InvalidSession := z13.2.2.1, i_InvalidSession := z13.2.2.2.1, t_InvalidSession := z13.2.2.2.2,
    C_InvalidNumber := He.ga K "InvalidNumber", g_InvalidNumber := He.glo_ok X G (c.fact 63 (f := .glo "InvalidNumber") rfl), x_InvalidNumber := z14.1, y_InvalidNumber := z14.2.1, n_InvalidNumber := z14.2.2.1, i_InvalidNumber := z14.2.2.2.1, t_InvalidNumber := z14.2.2.2.2,
    C_InvalidWeaving := He.ga K "InvalidWeaving", g_InvalidWeaving := He.glo_ok X G (c.fact 64 (f := .glo "InvalidWeaving") rfl), x_InvalidWeaving := z15.1, y_InvalidWeaving := z15.2.1, n_InvalidWeaving := z15.2.2.1, i_InvalidWeaving := z15.2.2.2.1, t_InvalidWeaving := z15.2.2.2.2,
    C_InvalidStore := He.ga K "InvalidStore", g_InvalidStore := He.glo_ok X G (c.fact 65 (f := .glo "InvalidStore") rfl), x_InvalidStore := z16.1, y_InvalidStore := z16.2.1, n_InvalidStore := z16.2.2.1, i_InvalidStore := z16.2.2.2.1, t_InvalidStore := z16.2.2.2.2,
    C_InvalidScene := He.ga K "InvalidScene", g_InvalidScene := He.glo_ok X G (c.fact 66 (f := .glo "InvalidScene") rfl), x_InvalidScene := z17.1, y_InvalidScene := z17.2.1, n_InvalidScene := z17.2.2.1, i_InvalidScene := z17.2.2.2.1, t_InvalidScene := z17.2.2.2.2,
    C_InvalidLog := He.ga K "InvalidLog", g_InvalidLog := He.glo_ok X G (c.fact 67 (f := .glo "InvalidLog") rfl), x_InvalidLog := z18.1, y_InvalidLog := z18.2.1, n_InvalidLog := z18.2.2.1, i_InvalidLog := z18.2.2.2.1, t_InvalidLog := z18.2.2.2.2,
    C_InvalidText := He.ga K "InvalidText", g_InvalidText := He.glo_ok X G (c.fact 68 (f := .glo "InvalidText") rfl), x_InvalidText := z19.1, y_InvalidText := z19.2.1, n_InvalidText := z19.2.2.1, i_InvalidText := z19.2.2.2.1, t_InvalidText := z19.2.2.2.2,
    C_InvalidCommand := He.ga K "InvalidCommand", g_InvalidCommand := He.glo_ok X G (c.fact 69 (f := .glo "InvalidCommand") rfl), x_InvalidCommand := z20.1, y_InvalidCommand := z20.2.1, n_InvalidCommand := z20.2.2.1, i_InvalidCommand := z20.2.2.2.1, t_InvalidCommand := z20.2.2.2.2,
    C_Duplicate := He.ga K "Duplicate", g_Duplicate := He.glo_ok X G (c.fact 70 (f := .glo "Duplicate") rfl), x_Duplicate := z21.1, y_Duplicate := z21.2.1, n_Duplicate := z21.2.2.1, i_Duplicate := z21.2.2.2.1, t_Duplicate := z21.2.2.2.2,
    C_UnknownPart := He.ga K "UnknownPart", g_UnknownPart := He.glo_ok X G (c.fact 71 (f := .glo "UnknownPart") rfl), x_UnknownPart := z22.1, y_UnknownPart := z22.2.1, n_UnknownPart := z22.2.2.1, i_UnknownPart := z22.2.2.2.1, t_UnknownPart := z22.2.2.2.2,
    C_UnknownMode := He.ga K "UnknownMode", g_UnknownMode := He.glo_ok X G (c.fact 72 (f := .glo "UnknownMode") rfl), x_UnknownMode := z23.1, y_UnknownMode := z23.2.1, n_UnknownMode := z23.2.2.1, i_UnknownMode := z23.2.2.2.1, t_UnknownMode := z23.2.2.2.2,
    C_UnknownEntry := He.ga K "UnknownEntry", g_UnknownEntry := He.glo_ok X G (c.fact 73 (f := .glo "UnknownEntry") rfl), x_UnknownEntry := z24.1, y_UnknownEntry := z24.2.1, n_UnknownEntry := z24.2.2.1, i_UnknownEntry := z24.2.2.2.1, t_UnknownEntry := z24.2.2.2.2,
    C_NameTaken := He.ga K "NameTaken", g_NameTaken := He.glo_ok X G (c.fact 74 (f := .glo "NameTaken") rfl), x_NameTaken := z25.1, y_NameTaken := z25.2.1, n_NameTaken := z25.2.2.1, i_NameTaken := z25.2.2.2.1, t_NameTaken := z25.2.2.2.2,
    C_Overlap := He.ga K "Overlap", g_Overlap := He.glo_ok X G (c.fact 75 (f := .glo "Overlap") rfl), x_Overlap := z26.1, y_Overlap := z26.2.1, n_Overlap := z26.2.2.1, i_Overlap := z26.2.2.2.1, t_Overlap := z26.2.2.2.2,
    C_NotInside := He.ga K "NotInside", g_NotInside := He.glo_ok X G (c.fact 76 (f := .glo "NotInside") rfl), x_NotInside := z27.1, y_NotInside := z27.2.1, n_NotInside := z27.2.2.1, i_NotInside := z27.2.2.2.1, t_NotInside := z27.2.2.2.2,
    C_NotNeighbours := He.ga K "NotNeighbours", g_NotNeighbours := He.glo_ok X G (c.fact 77 (f := .glo "NotNeighbours") rfl), x_NotNeighbours := z28.1, y_NotNeighbours := z28.2.1, n_NotNeighbours := z28.2.2.1, i_NotNeighbours := z28.2.2.2.1, t_NotNeighbours := z28.2.2.2.2,
    C_NoProgram := He.ga K "NoProgram", g_NoProgram := He.glo_ok X G (c.fact 78 (f := .glo "NoProgram") rfl), x_NoProgram := z29.1, y_NoProgram := z29.2.1, n_NoProgram := z29.2.2.1, i_NoProgram := z29.2.2.2.1, t_NoProgram := z29.2.2.2.2,
    C_TooMany := He.ga K "TooMany", g_TooMany := He.glo_ok X G (c.fact 79 (f := .glo "TooMany") rfl), x_TooMany := z30.1, y_TooMany := z30.2.1, n_TooMany := z30.2.2.1, i_TooMany := z30.2.2.2.1, t_TooMany := z30.2.2.2.2,
    C_Ended := He.ga K "Ended", g_Ended := He.glo_ok X G (c.fact 80 (f := .glo "Ended") rfl), x_Ended := z31.1, y_Ended := z31.2.1, n_Ended := z31.2.2.1, i_Ended := z31.2.2.2.1, t_Ended := z31.2.2.2.2,
    C_Waiting := He.ga K "Waiting", g_Waiting := He.glo_ok X G (c.fact 81 (f := .glo "Waiting") rfl), x_Waiting := z32.1, y_Waiting := z32.2.1, n_Waiting := z32.2.2.1, i_Waiting := z32.2.2.2.1, t_Waiting := z32.2.2.2.2,
    C_PartsError := He.ga K "PartsError", g_PartsError := He.glo_ok X G (c.fact 82 (f := .glo "PartsError") rfl),
    q_PartsError := (He.exc_ok (x := "PartsError") (c.fact 83 rfl)).1, kp_PartsError := (He.exc_ok (x := "PartsError") (c.fact 83 rfl)).2.1,
    C_NothingBad := He.ga K "NothingBad", g_NothingBad := He.glo_ok X G (c.fact 84 (f := .glo "NothingBad") rfl),
    q_NothingBad := (He.exc_ok (x := "NothingBad") (c.fact 85 rfl)).1, kp_NothingBad := (He.exc_ok (x := "NothingBad") (c.fact 85 rfl)).2.1,
    C_NotRight := He.ga K "NotRight", g_NotRight := He.glo_ok X G (c.fact 86 (f := .glo "NotRight") rfl),
    q_NotRight := (He.exc_ok (x := "NotRight") (c.fact 87 rfl)).1, kp_NotRight := (He.exc_ok (x := "NotRight") (c.fact 87 rfl)).2.1,
    C_NoStore := He.ga K "NoStore", g_NoStore := He.glo_ok X G (c.fact 88 (f := .glo "NoStore") rfl),
    q_NoStore := (He.exc_ok (x := "NoStore") (c.fact 89 rfl)).1, kp_NoStore := (He.exc_ok (x := "NoStore") (c.fact 89 rfl)).2.1,
    C_NothingToUndo := He.ga K "NothingToUndo", g_NothingToUndo := He.glo_ok X G (c.fact 90 (f := .glo "NothingToUndo") rfl),
    q_NothingToUndo := (He.exc_ok (x := "NothingToUndo") (c.fact 91 rfl)).1, kp_NothingToUndo := (He.exc_ok (x := "NothingToUndo") (c.fact 91 rfl)).2.1,
    C_NothingToRedo := He.ga K "NothingToRedo", g_NothingToRedo := He.glo_ok X G (c.fact 92 (f := .glo "NothingToRedo") rfl),
    q_NothingToRedo := (He.exc_ok (x := "NothingToRedo") (c.fact 93 rfl)).1, kp_NothingToRedo := (He.exc_ok (x := "NothingToRedo") (c.fact 93 rfl)).2.1,
    ke := e2, tab := e3, tabP := e4, ups := e5,
    z_len := He.free_ok X G (x := "len") (c.fact 94 rfl),
    z_max := He.free_ok X G (x := "max") (c.fact 95 rfl),
    z_isinstance := He.free_ok X G (x := "isinstance") (c.fact 96 rfl),
    z_range := He.free_ok X G (x := "range") (c.fact 97 rfl),
    z_ValueError := He.free_ok X G (x := "ValueError") (c.fact 98 rfl),
    z_KeyError := He.free_ok X G (x := "KeyError") (c.fact 99 rfl),
    z_IndexError := He.free_ok X G (x := "IndexError") (c.fact 100 rfl),
    z_TypeError := He.free_ok X G (x := "TypeError") (c.fact 101 rfl),
    z_min := He.free_ok X G (x := "min") (c.fact 102 rfl),
    z_bool := He.free_ok X G (x := "bool") (c.fact 103 rfl) }
  exact ⟨T.fd_law, fun s v => .of_eq rfl, fun base _ _ => ok_law T⟩
end My
open PySem PySem.W PySem.Calls PyProof.Rows
set_option maxRecDepth 100000 in
set_option maxHeartbeats 0 in
theorem PySem.Challenge.cw_hungparts_k04_exceptions_and_their_field_holds : PySem.Challenge.rw_hungparts_k04_exceptions_and_their_field.Holds := by
  w_on; o_law
  refine HandSHeadRun.head_any (r := My.RW) (q := view My.RW.prog [48]) (H := My.hookM) (ob := My.obN) (M := 12000) (loose := My.looseL) (d := HandSHeadRun.topDef My.RW.prog 48) (kwd := []) My.obN_eq
    (by kernel_rfl) (fun s => by kernel_rfl) My.run (by kernel_rfl) (by kernel_rfl) (by kernel_rfl) (by rfl) (by first | assumption | decide +kernel) (by decide +kernel) ⟨rfl, rfl, rfl, rfl, rfl, by decide +kernel⟩ ?hw ?hc
  case hw => w_witness2
  case hc =>
    refine L2.walk_ofE (l := PySem.Challenge.rw_hungparts_k04_exceptions_and_their_field) (n := 63) (k := 4) (x := "_law_script") (CX := L2.CX0) rfl (by decide) (by kernel_rfl) ⟨rfl, by decide, by decide⟩ ?F (fun _ _ _ _ z => z)
    intro w mg fa h Y G hmg0
    obtain ⟨K, KX, c, ex⟩ := Y
    have hmg : mg ("law" : PySem.Str) = some (.ref fa) := by
      have e : (HandSHeadRun.topDef My.RW.prog 48).name = ("law" : PySem.Str) := by kernel_rfl
      rw [← e]
      exact hmg0
    obtain ⟨fd, hb, hF⟩ := My.facts (P := (PySem.Challenge.rw_hungparts_k04_exceptions_and_their_field).prog) (w := w) KX G hmg c ex
    exact ⟨K, fd, My.sp_law K, KX, hb, fun H a ns hl _ hS => ⟨a, ns, rfl, hS, hl, fun _ => rfl⟩, hF⟩
#print axioms PySem.Challenge.cw_hungparts_k04_exceptions_and_their_field_holds

