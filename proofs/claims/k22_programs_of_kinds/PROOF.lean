import PyProof.Rows.All
import Wide.All
import OpenK.AllK
import Wide.FinOn
import HandS.ForMost
import HandS.ForExc
import HandS.IsInst
import HandS.Walk
import HandS.Codes
import HandS.SortKw
import HandS.TryMany
import HandS.ExcInit
import HandS.ExcField
import KE.DatumOrd
import HandS.More
import HandS.CallSlots
import HandS.Defaults
import HandS.TupAny
import HandS.Deep
import HandS.Small
import HandS.Style
import HandS.Words
import PySem.Challenge.RW_hungparts_k22_programs_of_kinds
set_option Elab.async false
set_option linter.all false
set_option maxRecDepth 100000
set_option maxHeartbeats 4000000

namespace My
open PySem L2
def top (i : Nat) : Stmt := PySem.Challenge.pw_hungparts_k22_programs_of_kinds.main.body.getD i (.Pass ⟨0, 0, 0, 0⟩)
abbrev s_NoProgram_init : Stmt := inClass (top 2) 0
theorem sc_NoProgram_init : FnScope ["self", "kind"] ["self", "kind"] (defScope s_NoProgram_init) := ⟨rfl, rfl, rfl, by decide +kernel, rfl, by decide +kernel, by decide +kernel⟩
abbrev s_is_name : Stmt := top 5
theorem sc_is_name : FnScope ["value", "sign"] ["value"] (defScope s_is_name) := ⟨rfl, rfl, rfl, by decide +kernel, rfl, by decide +kernel, by decide +kernel⟩
abbrev s_is_kind : Stmt := top 14
theorem sc_is_kind : FnScope ["value"] ["value"] (defScope s_is_kind) := ⟨rfl, rfl, rfl, by decide +kernel, rfl, by decide +kernel, by decide +kernel⟩
abbrev s_require_kind : Stmt := top 15
theorem sc_require_kind : FnScope ["value"] ["value"] (defScope s_require_kind) := ⟨rfl, rfl, rfl, by decide +kernel, rfl, by decide +kernel, by decide +kernel⟩
abbrev s_is_step : Stmt := top 16
theorem sc_is_step : FnScope ["value", "kind", "word", "thing", "mode"] ["value", "kind"] (defScope s_is_step) := ⟨rfl, rfl, rfl, by decide +kernel, rfl, by decide +kernel, by decide +kernel⟩
abbrev s_is_program : Stmt := top 17
theorem sc_is_program : FnScope ["value", "kind", "words", "step"] ["value", "kind"] (defScope s_is_program) := ⟨rfl, rfl, rfl, by decide +kernel, rfl, by decide +kernel, by decide +kernel⟩
abbrev s_ends_well : Stmt := top 18
theorem sc_ends_well : FnScope ["words", "at", "word"] ["words"] (defScope s_ends_well) := ⟨rfl, rfl, rfl, by decide +kernel, rfl, by decide +kernel, by decide +kernel⟩
abbrev s_has_needed : Stmt := top 19
theorem sc_has_needed : FnScope ["words", "kind", "word", "group"] ["words", "kind"] (defScope s_has_needed) := ⟨rfl, rfl, rfl, by decide +kernel, rfl, by decide +kernel, by decide +kernel⟩
abbrev s_is_in_order : Stmt := top 20
theorem sc_is_in_order : FnScope ["words", "earlier", "later"] ["words"] (defScope s_is_in_order) := ⟨rfl, rfl, rfl, by decide +kernel, rfl, by decide +kernel, by decide +kernel⟩
abbrev s_comes_before : Stmt := top 21
theorem sc_comes_before : FnScope ["words", "earlier", "later", "last", "first", "at", "word"] ["words", "earlier", "later"] (defScope s_comes_before) := ⟨rfl, rfl, rfl, by decide +kernel, rfl, by decide +kernel, by decide +kernel⟩
abbrev s_step_text : Stmt := top 22
theorem sc_step_text : FnScope ["step"] ["step"] (defScope s_step_text) := ⟨rfl, rfl, rfl, by decide +kernel, rfl, by decide +kernel, by decide +kernel⟩
abbrev s_law_cell : Stmt := top 24
theorem sc_law_cell : FnScope ["_law_script", "_law_k"] ["_law_script", "_law_k"] (defScope s_law_cell) := ⟨rfl, rfl, rfl, by decide +kernel, rfl, by decide +kernel, by decide +kernel⟩
abbrev s_law_box : Stmt := top 25
theorem sc_law_box : FnScope ["_law_cell_here"] ["_law_cell_here"] (defScope s_law_box) := ⟨rfl, rfl, rfl, by decide +kernel, rfl, by decide +kernel, by decide +kernel⟩
abbrev s_law_take : Stmt := top 26
theorem sc_law_take : FnScope ["_law_box_here", "_law_many", "_law_digit", "_law_number"] ["_law_box_here", "_law_many"] (defScope s_law_take) := ⟨rfl, rfl, rfl, by decide +kernel, rfl, by decide +kernel, by decide +kernel⟩
abbrev s_law_mixed : Stmt := top 27
theorem sc_law_mixed : FnScope ["_law_box_here", "_law_some", "_law_left", "_law_k"] ["_law_box_here", "_law_some"] (defScope s_law_mixed) := ⟨rfl, rfl, rfl, by decide +kernel, rfl, by decide +kernel, by decide +kernel⟩
abbrev s_law_names : Stmt := top 28
theorem sc_law_names : FnScope ["_law_box_here", "_law_many", "_law_letters", "_law_words", "_law_stem", "_law_first", "_law_step", "_law_way", "_law_found", "_law_k", "_law_sign", "_law_name"] ["_law_box_here", "_law_many"] (defScope s_law_names) := ⟨rfl, rfl, rfl, by decide +kernel, rfl, by decide +kernel, by decide +kernel⟩
abbrev s_law_kinds : Stmt := top 29
theorem sc_law_kinds : FnScope [] [] (defScope s_law_kinds) := ⟨rfl, rfl, rfl, by decide +kernel, rfl, by decide +kernel, by decide +kernel⟩
abbrev s_law_is_name : Stmt := top 30
theorem sc_law_is_name : FnScope ["_law_value", "_law_sign"] ["_law_value"] (defScope s_law_is_name) := ⟨rfl, rfl, rfl, by decide +kernel, rfl, by decide +kernel, by decide +kernel⟩
abbrev s_law_is_step : Stmt := top 31
theorem sc_law_is_step : FnScope ["_law_value", "_law_kind", "_law_askers", "_law_changes", "_law_at", "_law_where", "_law_word", "_law_item"] ["_law_value", "_law_kind"] (defScope s_law_is_step) := ⟨rfl, rfl, rfl, by decide +kernel, rfl, by decide +kernel, by decide +kernel⟩
abbrev s_law_count : Stmt := top 32
theorem sc_law_count : FnScope ["_law_words", "_law_some", "_law_word"] ["_law_words", "_law_some"] (defScope s_law_count) := ⟨rfl, rfl, rfl, by decide +kernel, rfl, by decide +kernel, by decide +kernel⟩
abbrev s_law_order : Stmt := top 33
theorem sc_law_order : FnScope ["_law_words", "_law_first", "_law_later", "_law_ends", "_law_at"] ["_law_words", "_law_first", "_law_later"] (defScope s_law_order) := ⟨rfl, rfl, rfl, by decide +kernel, rfl, by decide +kernel, by decide +kernel⟩
abbrev s_law_is_program : Stmt := top 34
theorem sc_law_is_program : FnScope ["_law_value", "_law_kind", "_law_words", "_law_last", "_law_deeds", "_law_scans", "_law_step", "_law_at"] ["_law_value", "_law_kind"] (defScope s_law_is_program) := ⟨rfl, rfl, rfl, by decide +kernel, rfl, by decide +kernel, by decide +kernel⟩
abbrev s_law_drawn_step : Stmt := top 35
theorem sc_law_drawn_step : FnScope ["_law_box_here", "_law_modes", "_law_plain", "_law_where"] ["_law_box_here", "_law_modes"] (defScope s_law_drawn_step) := ⟨rfl, rfl, rfl, by decide +kernel, rfl, by decide +kernel, by decide +kernel⟩
abbrev s_law_base : Stmt := top 36
theorem sc_law_base : FnScope ["_law_box_here", "_law_kind", "_law_deed", "_law_last"] ["_law_box_here", "_law_kind"] (defScope s_law_base) := ⟨rfl, rfl, rfl, by decide +kernel, rfl, by decide +kernel, by decide +kernel⟩
abbrev s_law_program : Stmt := top 37
theorem sc_law_program : FnScope ["_law_box_here", "_law_kind", "_law_modes", "_law_found", "_law_turn", "_law_step", "_law_at", "_law_more"] ["_law_box_here", "_law_kind", "_law_modes"] (defScope s_law_program) := ⟨rfl, rfl, rfl, by decide +kernel, rfl, by decide +kernel, by decide +kernel⟩
abbrev s_law_bent : Stmt := top 38
theorem sc_law_bent : FnScope ["_law_box_here", "_law_program_here", "_law_modes", "_law_found", "_law_at", "_law_other", "_law_way"] ["_law_box_here", "_law_program_here", "_law_modes"] (defScope s_law_bent) := ⟨rfl, rfl, rfl, by decide +kernel, rfl, by decide +kernel, by decide +kernel⟩
abbrev s_law_told : Stmt := top 39
theorem sc_law_told : FnScope ["_law_value", "_law_kind", "e"] ["_law_value", "_law_kind"] (defScope s_law_told) := ⟨rfl, rfl, rfl, by decide +kernel, rfl, by decide +kernel, by decide +kernel⟩
abbrev s_law : Stmt := top 40
theorem sc_law : FnScope ["_law_script", "_law_k", "_law_box_here", "_law_modes", "_law_kind", "_law_program_here", "_law_turn", "_law_bent_here", "_law_other", "_law_told_here", "_law_odd"] ["_law_script"] (defScope s_law) := ⟨rfl, rfl, rfl, by decide +kernel, rfl, by decide +kernel, by decide +kernel⟩

/-! ### further rules -/
section
variable {X : Cx}
theorem holdAll_ints {h : Heap} : ∀ {us : List Value} {ns : List Int}, Vals (ns.map V.int) us → PySem.W.HoldAll (α := Int) h us ns
  | _, [], .nil => ⟨_, .nil⟩
  | _, n :: r, .cons ⟨t, e⟩ k => by
    subst e
    obtain ⟨as, q⟩ := holdAll_ints (h := h) k
    exact ⟨_, .cons (.int n t) q⟩
theorem holds_int {h : Heap} {v : Value} {n : Int} (H : PySem.W.Holds (α := Int) h v n) : ∃ t, v = .int n t := by
  obtain ⟨as, r⟩ := H
  cases r
  exact ⟨_, rfl⟩
theorem maxOf_ints : ∀ (ys : List Int) (y : Int), PySem.W.maxOf y ys ∈ y :: ys ∧ ∀ n ∈ y :: ys, n ≤ PySem.W.maxOf y ys := by
  intro ys
  induction ys with
  | nil =>
    intro y
    exact ⟨List.mem_cons_self, fun n hn => by cases List.mem_singleton.mp hn; exact Int.le_refl _⟩
  | cons z r ih =>
    intro y
    have e : PySem.W.maxOf y (z :: r) = PySem.W.maxOf (if y < z then z else y) r := by
      show List.foldl _ (if decide (y < z) = true then z else y) r = _
      simp only [decide_eq_true_eq]
      rfl
    rw [e]
    obtain ⟨h1, h2⟩ := ih (if y < z then z else y)
    have hy := h2 _ List.mem_cons_self
    have hyz : y ≤ (if y < z then z else y) ∧ z ≤ (if y < z then z else y) := by
      split <;> omega
    refine ⟨?_, fun n hn => ?_⟩
    · rcases List.mem_cons.mp h1 with q | q
      · rw [q]
        split <;> simp
      · exact List.mem_cons_of_mem _ (List.mem_cons_of_mem _ q)
    · rcases List.mem_cons.mp hn with rfl | hn
      · omega
      · rcases List.mem_cons.mp hn with rfl | hn
        · omega
        · exact h2 n (List.mem_cons_of_mem _ hn)
theorem minOf_ints : ∀ (ys : List Int) (y : Int), PySem.W.minOf y ys ∈ y :: ys ∧ ∀ n ∈ y :: ys, PySem.W.minOf y ys ≤ n := by
  intro ys
  induction ys with
  | nil =>
    intro y
    exact ⟨List.mem_cons_self, fun n hn => by cases List.mem_singleton.mp hn; exact Int.le_refl _⟩
  | cons z r ih =>
    intro y
    have e : PySem.W.minOf y (z :: r) = PySem.W.minOf (if z < y then z else y) r := by
      show List.foldl _ (if decide (z < y) = true then z else y) r = _
      simp only [decide_eq_true_eq]
      rfl
    rw [e]
    obtain ⟨h1, h2⟩ := ih (if z < y then z else y)
    have hy := h2 _ List.mem_cons_self
    have hyz : (if z < y then z else y) ≤ y ∧ (if z < y then z else y) ≤ z := by
      split <;> omega
    refine ⟨?_, fun n hn => ?_⟩
    · rcases List.mem_cons.mp h1 with q | q
      · rw [q]
        split <;> simp
      · exact List.mem_cons_of_mem _ (List.mem_cons_of_mem _ q)
    · rcases List.mem_cons.mp hn with rfl | hn
      · omega
      · rcases List.mem_cons.mp hn with rfl | hn
        · omega
        · exact h2 n (List.mem_cons_of_mem _ hn)
/-- max(xs, default=d), xs a list of whole numbers -/
def rMaxD (K : PySem.W.Frag) : List V → List V → Hp → VK → Prop := fun xs zs H Q => ∃ (a : Addr) (ns : List Int) (d : V), xs = [.ref a] ∧ zs = [d] ∧ SqL K H a (ns.map V.int) ∧ (ns = [] → Q d H) ∧ ∀ m, m ∈ ns → (∀ n ∈ ns, n ≤ m) → Q (.int m) H
def rMinD (K : PySem.W.Frag) : List V → List V → Hp → VK → Prop := fun xs zs H Q => ∃ (a : Addr) (ns : List Int) (d : V), xs = [.ref a] ∧ zs = [d] ∧ SqL K H a (ns.map V.int) ∧ (ns = [] → Q d H) ∧ ∀ m, m ∈ ns → (∀ n ∈ ns, m ≤ n) → Q (.int m) H
theorem cr_maxD (hc : X.calm = true) (hu : X.A.units + 64 < cLine) : CallRK X (.builtin "max") ["default"] (rMaxD X.K) := by
  intro pins s σ H xs zs us ws Q I rx rz h
  obtain ⟨a, ns, d, rfl, rfl, hS, h0, h1⟩ := h
  obtain ⟨its, rv, pl, _⟩ := I.list hS
  obtain ⟨u, rfl, ru⟩ := vals1 rx
  obtain ⟨dv, rfl, rd⟩ := vals1 rz
  cases ru
  refine PySem.W.max_list_datum_default (α := Int) (xs := ns) (I.ok.hd hc) pl.isList (holdAll_ints (by simpa using rv)) (by show X.A.units + 1 + 0 < cLine; omega) (fun e h' tk k => ⟨d, H, I.kept k, rd, h0 e⟩) fun y ys i v h' tk e hi hh k => ?_
  subst e
  obtain ⟨t, rfl⟩ := holds_int hh
  have m := maxOf_ints ys y
  exact ⟨.int _, H, I.kept k, ⟨t, rfl⟩, h1 _ m.1 m.2⟩
theorem cr_minD (hc : X.calm = true) (hu : X.A.units + 64 < cLine) : CallRK X (.builtin "min") ["default"] (rMinD X.K) := by
  intro pins s σ H xs zs us ws Q I rx rz h
  obtain ⟨a, ns, d, rfl, rfl, hS, h0, h1⟩ := h
  obtain ⟨its, rv, pl, _⟩ := I.list hS
  obtain ⟨u, rfl, ru⟩ := vals1 rx
  obtain ⟨dv, rfl, rd⟩ := vals1 rz
  cases ru
  refine PySem.W.min_list_datum_default (α := Int) (xs := ns) (I.ok.hd hc) pl.isList (holdAll_ints (by simpa using rv)) (by show X.A.units + 1 + 0 < cLine; omega) (fun e h' tk k => ⟨d, H, I.kept k, rd, h0 e⟩) fun y ys i v h' tk e hi hh k => ?_
  subst e
  obtain ⟨t, rfl⟩ := holds_int hh
  have m := minOf_ints ys y
  exact ⟨.int _, H, I.kept k, ⟨t, rfl⟩, h1 _ m.1 m.2⟩
/-- what is surely the same: a flat value, or one object -/
def sureV (v : V) : Bool := flatB v || (match v with | .ref _ => true | _ => false)
theorem sure_eq {A : Around} {s : Shared} {v : V} {u u' : Value} (r : RelV v u) (r' : RelV v u') (f : sureV v = true) : SeqAt.EqAt A s u u' true := by
  cases v with
  | ref a =>
    cases (show u = Value.ref a from r)
    cases (show u' = Value.ref a from r')
    exact SeqAt.EqAt.same _
  | ty n => cases f
  | flt b => cases f
  | _ => exact eqAt_same r r' rfl
/-- two lists of the same items: they are not unlike -/
def rNeS (K : PySem.W.Frag) : R2 := fun x y H Q => ∃ (a b : Addr) (xs : List V), x = .ref a ∧ y = .ref b ∧ SqL K H a xs ∧ SqL K H b xs ∧ xs.all sureV = true ∧ Q (.bl false) H
theorem op_neS (hu : X.A.units + 64 < cLine) : OpR X (compareOp .NotEq) (rNeS X.K) := by
  intro pins s σ H x y v u Q I rx ry h
  obtain ⟨a, b, xs, rfl, rfl, ha, hb, hf, q⟩ := h
  cases (show v = Value.ref a from rx)
  cases (show u = Value.ref b from ry)
  obtain ⟨us, r1, p1, _⟩ := I.list ha
  obtain ⟨ws, r2, p2, _⟩ := I.list hb
  have hl : us.toArray.size = ws.toArray.size := by
    rw [List.size_toArray, List.size_toArray, ← r1.length, ← r2.length]
  refine SeqAt.RcNeAt.lists (e := fun _ => true) p1.isList p2.isList hl (by omega) (fun j h1 h2 => ?_) X.prog X.w _ _ ?_
  · have hj : j < xs.length := by
      rw [r1.length]
      simpa using h1
    obtain ⟨u1, e1, q1⟩ := r1.get (List.getElem?_eq_getElem hj)
    obtain ⟨u2, e2, q2⟩ := r2.get (List.getElem?_eq_getElem hj)
    have k1 : us.toArray[j] = u1 := by
      have := List.getElem?_eq_some_iff.mp e1
      simpa using this.2
    have k2 : ws.toArray[j] = u2 := by
      have := List.getElem?_eq_some_iff.mp e2
      simpa using this.2
    rw [k1, k2]
    exact sure_eq q1 q2 (List.all_eq_true.mp hf _ (List.getElem_mem hj))
  · have ea : ((List.range us.toArray.size).all fun _ => true) = true := List.all_eq_true.mpr fun _ _ => rfl
    rw [ea]
    exact ⟨.bl false, H, I, rfl, q⟩
end
/-! ### try with several clauses, each of which names the exception: slot i is the name's -/
/-- what the clauses wish of an exception of the body, one after the other -/
def wManyAs (K : PySem.W.Frag) (i : Nat) (Wout : WX) (D : Ends) : List (Value × (Addr → Value → Option Addr → TS)) → WX
  | [] => Wout
  | (c, ts) :: r => wAs K c i ts (wManyAs K i Wout D r) D
inductive HdsAs (X : Cx) (n : Str) : List ExceptHandler → List (Value × (Addr → Value → Option Addr → TS)) → Prop
  | nil : HdsAs X n [] []
  | cons {x : Str} {c : Value} {ts : Addr → Value → Option Addr → TS} {st : Stmt} {sts : List Stmt} {p1 p2 : Pos} {hs : List ExceptHandler} {l : List (Value × (Addr → Value → Option Addr → TS))} (hc : Names X x c)
      (hb : ∀ (a : Addr) (o : Obj) (cls : Value) (d : Option Addr) (pn : List (Addr × Obj)), Zc cls d o → (∃ vs, o.data = .fields vs) → PSs (X.suite a ((a, o) :: pn)) (st :: sts) (ts a cls d)) (r : HdsAs X n hs l) :
      HdsAs X n (.ExceptHandler (some (.Name x p1)) (some n) (st :: sts) p2 :: hs) ((c, ts) :: l)
section
variable {X : Cx} {n : Str} {i : Nat} {pos : Pos} {tb : WX → TS} {Wout : WX} {body : List Stmt}
theorem ps_try_manyAs {g₀ : ExceptHandler} {gs : List ExceptHandler} {l : List (Value × (Addr → Value → Option Addr → TS))} (stk : X.stack = X.env :: X.outer) (frm : X.env.frame = some X.env.locals) (nodup : X.N.Nodup) (at_i : X.N[i]? = some n) (lcl : X.env.kindOf n = some .local)
    (out : Takes X Wout) (hbody : ∀ (W : WX) (pn : List (Addr × Obj)) (xe : Value → Shared → Prop), Takes (X.tr pn xe) W → PassesOwn (model X.prog X.w) X.A X.env xe → PSs (X.tr pn xe) body (tb W)) (hands : HdsAs X n (g₀ :: gs) l) :
    PS X (.Try body (g₀ :: gs) [] [] pos) (fun D σ H => tb (wManyAs X.K i Wout D l) D σ H) := by
  constructor
  intro pins s σ H D I hw
  have fr2 : X.A.frames = some (X.env :: X.outer) := by
    rw [I.ok.frames, stk]
  apply wpAny_Try_except
  let xe' : Value → Shared → Prop := fun e s₁ => wpAny (model X.prog X.w) X.A (noteFrame e X.env)
    (fun _ s₂ => wpAny (model X.prog X.w) X.A (setFlight e none) (fun _ s₃ => wpAny (model X.prog X.w) X.A (handleBy e X.env (g₀ :: gs)) (SP X pins D) X.xe s₃) X.xe s₂) X.xe s₁
  have caught : Takes (X.tr (X.pn ++ pins) xe') (wManyAs X.K i Wout D l) := by
    rintro u s' ⟨a, B, sI, pins', σ', H', cls, d, rfl, J1, nb, up, sky, na, os, ag, wish⟩
    have J := J1.ofTry I.ok
    have sky2 : Sky B (X.env :: X.outer) a (Zc cls d) X.env.locals s'.heap := by
      rw [← stk]
      exact sky
    show wpAny _ X.A (noteFrame (.ref a) X.env) _ _ _
    apply Sky.land Zc.steady fr2 frm sky2
    intro hA fly upA
    have JA : Inv X pins σ' H' { s' with heap := hA } := J.landed nb fly.1 (up.trans upA) os ag
    obtain ⟨oA, wA, getA, zA, dataA⟩ := fly.there
    have off : a ∉ frs (X.env :: X.outer) := by
      intro hm
      obtain ⟨_, o2, get2, nodata⟩ := fly.2.2.1.mem hm
      have same := get2.symm.trans getA
      cases same
      exact nodata _ dataA
    have offL : a ≠ X.env.locals := by
      intro z
      refine off (List.mem_filterMap.mpr ⟨X.env, List.mem_cons_self, ?_⟩)
      rw [frm, z]
    have offF : a ∉ X.fs := by
      intro hm
      obtain ⟨e, he, q⟩ := List.mem_filterMap.mp hm
      exact off (List.mem_filterMap.mpr ⟨e, List.mem_cons_of_mem _ he, q⟩)
    have SA := JA.suite getA dataA na offL offF
    suffices go : ∀ {hs : List ExceptHandler} {l' : List (Value × (Addr → Value → Option Addr → TS))}, HdsAs X n hs l' → wManyAs X.K i Wout D l' cls d σ' H' →
        wpAny (model X.prog X.w) X.A (handleBy (.ref a) X.env hs) (SP X pins D) X.xe { s' with heap := hA } from go hands wish
    intro hs l' hk
    induction hk with
    | nil =>
      intro wi
      apply wpAny_handleBy_nil
      obtain ⟨_, _, _, o5, w5, T5, oT5, t5, g5, z5, d5, e5, r5⟩ := id fly
      unfold PySem.passOn
      apply wpAny_bind
      refine wpAny_field g5 d5 e5 ?_
      rw [if_neg (show ¬ ((Value.ref T5 == Value.none) = true) by simp)]
      have leave : wpAny (model X.prog X.w) X.A (setFlight (.ref a) X.env.frame) (fun _ s4 => wpAny (model X.prog X.w) X.A (throw (.ref a) : Sem Flow) (SP X pins D) X.xe s4) X.xe { s' with heap := hA } := by
        rw [frm]
        refine HandSPX.setFlight_upZ fly fun hB heldB upB => ?_
        apply wpAny_throw
        exact out _ _ ⟨a, B, sI, pins, σ', H', cls, d, rfl, J, nb, (up.trans upA).trans upB, .inr (.inr (by rw [stk]; exact heldB)), na, os, ag, wi⟩
      first
        | exact wpAny_bind leave
        | exact wpAny_bind (wpAny_pure (wpAny_bind leave))
    | @cons x c ts st sts p1 p2 hs2 l2 hc hb r ih =>
      rintro ⟨b, isb, yes, no⟩
      refine wpAny_handleBy_cons (codeAny_handlers_test ?_) (by intro q; cases q)
      have lookT : PySem.W.Looks (model X.prog X.w) hA (typeOf (.ref a)) cls := by
        intro A' Q E s2 k q
        exact wpAny_typeOf_ref (k _ _ getA) (by rw [zA.1]; exact q)
      have lookM := PySem.W.exm_one (M := model X.prog X.w) JA.kIn lookT isb
      have named : ∀ {Q E : Value → Shared → Prop}, Q c { s' with heap := hA } → wpAny (model X.prog X.w) (X.A.mark (some (.ref a))) (eval (.Name x p1) X.env) Q E { s' with heap := hA } := by
        intro Q E q
        obtain ⟨gl, nd, hm⟩ := hc
        rcases hm with hm | ⟨hm, bv, nn⟩
        · exact ld_glob (X := X.suite a ((a, oA) :: (X.pn ++ pins))) SA gl hm q nd
        · exact ld_blt (X := X.suite a ((a, oA) :: (X.pn ++ pins))) SA gl hm bv q nn nd
      apply named
      apply lookM.here
      cases b with
      | false =>
        show wpAny _ X.A (handleBy (.ref a) X.env hs2) _ _ _
        exact ih (no rfl)
      | true =>
        apply codeAny_handlers_suite_as
        refine HandSPX.lands_againZ fly fun hC flyC upC => ?_
        have JC : Inv X pins σ' H' { s' with heap := hC } := J.landed nb flyC.1 ((up.trans upA).trans upC) os ag
        obtain ⟨oC, wC, getC, zC, dataC⟩ := flyC.there
        have SC := JC.suite getC dataC na offL offF
        refine store_ok (X := X.suite a ((a, oC) :: (X.pn ++ pins))) (v := .ref a) SC nodup at_i (.inl lcl) rfl (fun s5 S5 => ?_) (.inr lcl)
        refine wpAny_mono ((hb a oC cls d (X.pn ++ pins) zC ⟨_, dataC⟩).run [] s5 _ H' _ S5 (yes rfl a na)) (fun fl s6 hq => ?_) (fun _ _ z => z.elim)
        have fin : ∀ {σ6 : L2.St} {H6 : Hp} {Q : Shared → Prop}, Inv (X.suite a ((a, oC) :: (X.pn ++ pins))) [] σ6 H6 s6 → (∀ s7, Inv X pins (σ6.set i none) H6 s7 → Q s7) →
            wpAny (model X.prog X.w) X.A (do bindName X.env n .none; unbindBehindTheSuite X.env n p2) (fun _ s7 => Q s7) X.xe s6 := by
          intro σ6 H6 Q S6 q
          exact gone_ok (S6.unsuite I.ok) nodup at_i lcl q
        cases fl with
        | ret u =>
          obtain ⟨v6, σ6, H6, S6, r6, q6⟩ := hq
          exact fin S6 fun s7 J7 => ⟨_, _, _, J7, r6, q6⟩
        | next =>
          obtain ⟨σ6, H6, S6, q6⟩ := hq
          exact fin S6 fun s7 J7 => ⟨_, _, J7, q6⟩
        | brk =>
          obtain ⟨σ6, H6, S6, q6⟩ := hq
          exact fin S6 fun s7 J7 => ⟨_, _, J7, q6⟩
        | cont =>
          obtain ⟨σ6, H6, S6, q6⟩ := hq
          exact fin S6 fun s7 J7 => ⟨_, _, J7, q6⟩
  refine wpAny_mono ((hbody _ (X.pn ++ pins) xe' caught PassesOwn.looking).run [] s σ H D (I.toTry _) hw) (fun fl s1 hq => ?_) (fun _ _ he => he)
  cases fl with
  | ret u =>
    obtain ⟨v, σ', H', J', r', q⟩ := hq
    exact ⟨v, σ', H', J'.ofTry I.ok, r', q⟩
  | next =>
    obtain ⟨σ', H', J', q⟩ := hq
    exact wpAny_execs_nil ⟨σ', H', J'.ofTry I.ok, q⟩
  | brk =>
    obtain ⟨σ', H', J', q⟩ := hq
    exact ⟨σ', H', J'.ofTry I.ok, q⟩
  | cont =>
    obtain ⟨σ', H', J', q⟩ := hq
    exact ⟨σ', H', J'.ofTry I.ok, q⟩
end
/-! ### a def called with keywords (and perhaps positional values ahead), what leaves it wished for at the caller's slots -/
/-- what such a call binds, the parameters' order by a permutation of the values -/
structure KwB (K : PySem.W.Frag) (fd : FuncData) (ps : List Str) (n : Nat) (ks : List Str) (g : {α : Type} → List α → List α → List α) : Prop where
  to : ∀ (us ws : List Value), us.length = n → ws.length = ks.length → bindArgs fd ⟨us, ks.zip ws⟩ = pure (ps.zip (g us ws))
  rel : ∀ {vs : List V} {us : List Value} {zs : List V} {ws : List Value}, vs.length = n → zs.length = ks.length → Vals vs us → Vals zs ws → Vals (g vs zs) (g us ws)
def tCallKw (n m : Nat) (sp : Sp) (g : List V → List V → List V) (E : L2.St → XK) (t tk : TA) : TE := fun σ H Q => t σ H fun vs H1 => tk σ H1 fun zs H2 => vs.length = n ∧ zs.length = m ∧ sp (g vs zs) H2 Q (E σ)
section
variable {X : Cx} {CX : CXT} {k n : Nat} {f : Addr} {fd : FuncData} {ps ks : List Str} {sp : Sp} {E : L2.St → XK} {x : Str} {p pos : Pos} {e : Expr} {es : List Expr} {kws : List Keyword} {t tk : TA} {g : {α : Type} → List α → List α → List α}
theorem run_kw {pins : List (Addr × Obj)} {σ : L2.St} {H : Hp} {s : Shared} {Q : VK} {us ws : List Value} {vs zs : List V} (F : FnOk X.prog X.w X.K X.mg X.base CX k f fd ps sp) (room : Room k X.A) (bnd : KwB X.K fd ps n ks g) (px : PassesAt CX X σ (E σ))
    (I : Inv X pins σ H s) (rv : Vals vs us) (rz : Vals zs ws) (l1 : vs.length = n) (l2 : zs.length = ks.length) (hsp : sp (g vs zs) H Q (E σ)) : wpAny (model X.prog X.w) X.A (call (.ref f) us (ks.zip ws)) (EP X pins σ Q) X.xe s := by
  apply wpAny_call
  refine codeAny_mono (F.run X.A X.stack s H ⟨us, ks.zip ws⟩ (g us ws) (g vs zs) Q (E σ) room I.env0 (.of_eq (bnd.to us ws (rv.length.symm.trans l1) (rz.length.symm.trans l2))) (bnd.rel l1 l2 rv rz) hsp) fun r s' got => ?_
  match r, got with
  | .error er, got => exact px pins H s er s' I got
  | .ok (.ret u), got => exact I.after got
  | .ok .next, got => exact got.elim
  | .ok .brk, got => exact got.elim
  | .ok .cont, got => exact got.elim
/-- f(k = v, ..) -/
theorem pe_kw0 (F : FnOk X.prog X.w X.K X.mg X.base CX k f fd ps sp) (room : Room k X.A) (gl : Gl X x) (m : X.mg x = some (.ref f)) (kp : PySem.W.keepIn X.K (.ref f) = true) (bnd : KwB X.K fd ps 0 ks g) (px : ∀ σ, PassesAt CX X σ (E σ)) (kw : PK X kws tk)
    (h1 : (backToKw pos (keywordEach kws X.env)).all (·.1.isSome) = true := by rfl) (h2 : (backToKw pos (keywordEach kws X.env)).filterMap (·.1) = ks := by rfl) (h3 : (x == ("__debug__" : Str)) = false := by decide)
    (h4 : ((backTo pos (starEach [] X.env)).any (·.1) || (backToKw pos (keywordEach kws X.env)).any (·.1.isNone)) = false := by rfl) : PE X (.Call (.Name x p) [] kws pos) (tCallKw 0 ks.length sp g E tNil tk) := by
  constructor
  intro pins s σ H Q I h
  apply wpAny_Call_Name_kw
  refine ld_glob I gl m ?_ h3
  refine PySem.W.callWith_KW0 (h₀ := X.base) I.ok.mod.kin kp h1 ?_ h4
  refine thn (kw.run pos pins s σ H _ I h) fun ws s2 got => ?_
  obtain ⟨zs, H2, I2, rz, l1, l2, q2⟩ := got
  rw [h2]
  exact ⟨I2.kIn, run_kw (us := []) (vs := []) F room bnd (px σ) I2 .nil rz rfl l2 q2⟩
/-- f(e, .., k = v, ..) -/
theorem pe_kw (F : FnOk X.prog X.w X.K X.mg X.base CX k f fd ps sp) (room : Room k X.A) (gl : Gl X x) (m : X.mg x = some (.ref f)) (kp : PySem.W.keepIn X.K (.ref f) = true) (bnd : KwB X.K fd ps n ks g) (px : ∀ σ, PassesAt CX X σ (E σ)) (ha : PA X (e :: es) t) (kw : PK X kws tk)
    (h1 : (backToKw pos (keywordEach kws X.env)).all (·.1.isSome) = true := by rfl) (h2 : (backToKw pos (keywordEach kws X.env)).filterMap (·.1) = ks := by rfl) (h3 : (x == ("__debug__" : Str)) = false := by decide)
    (h5 : starEach (e :: es) X.env = (false, eval e X.env) :: starEach es X.env := by rfl) (h4 : ((backTo pos (starEach (e :: es) X.env)).any (·.1) || (backToKw pos (keywordEach kws X.env)).any (·.1.isNone)) = false := by rfl) :
    PE X (.Call (.Name x p) (e :: es) kws pos) (tCallKw n ks.length sp g E t tk) := by
  constructor
  intro pins s σ H Q I h
  apply wpAny_Call_Name_kw
  refine ld_glob I gl m ?_ h3
  refine PySem.W.callWith_KW (h₀ := X.base) I.ok.mod.kin kp h1 (thn (ha.run pos pins s σ H _ I h) fun us s1 got => ?_) h4 h5
  obtain ⟨vs, H1, I1, rv, q⟩ := got
  refine thn (kw.run pos pins s1 σ H1 _ I1 q) fun ws s2 got => ?_
  obtain ⟨zs, H2, I2, rz, l1, l2, q2⟩ := got
  rw [h2]
  exact ⟨I2.kIn, run_kw F room bnd (px σ) I2 rv rz l1 l2 q2⟩
theorem passAt_of {X : Cx} {CX : CXT} {E : XK} (h : Passes CX X E) (σ : L2.St) : PassesAt CX X σ E := fun pins H s e s' I c => h pins σ H s e s' I c
/-- in a def that lets exceptions out: what a callee lets out goes on -/
theorem passC {X : Cx} {E : XK} (tk : Takes X (fun cls d _ H => E cls d H)) : Passes (L2.CX X.prog X.w) X E := passes_call tk fun _ _ _ _ h => h
end
/-- the drawing box at p: three ints, drawn n times at most -/
def BoxAt (H : Hp) (p : Addr) (n : Nat) : Prop := ∃ d s c : Int, H p = some (.lst [.int d, .int s, .int c]) ∧ 0 ≤ d ∧ 0 ≤ s ∧ s < 2147483629 ∧ 0 ≤ c ∧ c ≤ n
/-- H0: all that is known beside the box -/
structure BoxIn (H0 H : Hp) (p : Addr) (n : Nat) : Prop where
  same : Same H0 H
  free : H0 p = none
  box : BoxAt H p n
theorem BoxAt.mono {H : Hp} {p : Addr} {n m : Nat} (b : BoxAt H p n) (h : n ≤ m) : BoxAt H p m := by
  obtain ⟨d, s, c, h1, h2, h3, h4, h5, h6⟩ := b
  exact ⟨d, s, c, h1, h2, h3, h4, h5, by omega⟩
theorem BoxIn.mono {H0 H : Hp} {p : Addr} {n m : Nat} (b : BoxIn H0 H p n) (h : n ≤ m) : BoxIn H0 H p m := ⟨b.same, b.free, b.box.mono h⟩
/-- a pure step behind it -/
theorem BoxIn.keep {H0 H H' : Hp} {p : Addr} {n : Nat} (b : BoxIn H0 H p n) (s : Same H H') : BoxIn H0 H' p n := by
  obtain ⟨d, s', c, h1, h⟩ := b.box
  exact ⟨b.same.trans s, b.free, d, s', c, s _ _ h1, h⟩
/-- a new object becomes known -/
theorem BoxIn.new {H0 H : Hp} {p q : Addr} {n : Nat} {o : HO} (b : BoxIn H0 H p n) (hq : H q = none) : BoxIn (upd H0 q o) (upd H q o) p n ∧ Same H0 (upd H0 q o) := by
  obtain ⟨d, s', c, h1, h⟩ := b.box
  have npq : p ≠ q := ne_of_none h1 hq
  refine ⟨⟨fun x u e => ?_, by rw [upd_ne npq]; exact b.free, d, s', c, by rw [upd_ne npq]; exact h1, h⟩, fun x u e => ?_⟩
  · by_cases hx : x = q
    · subst hx
      rw [upd_same] at e ⊢
      exact e
    · rw [upd_ne hx] at e ⊢
      exact b.same _ _ e
  · rw [upd_ne (ne_of_none e (b.same.free hq))]
    exact e
/-- all that is tracked now, the box aside, is known -/
def but (H : Hp) (p : Addr) : Hp := fun q => if q = p then none else H q
theorem but_same {H : Hp} {p : Addr} : but H p p = none := by unfold but; rw [if_pos rfl]
theorem but_ne {H : Hp} {p q : Addr} (h : q ≠ p) : but H p q = H q := by unfold but; rw [if_neg h]
theorem BoxIn.all {H0 H : Hp} {p : Addr} {n : Nat} (b : BoxIn H0 H p n) : BoxIn (but H p) H p n ∧ Same H0 (but H p) := by
  refine ⟨⟨fun x u e => ?_, but_same, b.box⟩, fun x u e => ?_⟩
  · by_cases hx : x = p
    · subst hx
      rw [but_same] at e
      cases e
    · rw [but_ne hx] at e
      exact e
  · have hx : x ≠ p := fun q => by
      rw [q, b.free] at e
      cases e
    rw [but_ne hx]
    exact b.same _ _ e

def sp_law_cell (K : PySem.W.Frag) : Sp := fun vs H Q _ => ∃ (a : Addr) (ns : List Int) (k : Int), vs = [.ref a, .int k] ∧ SqL K H a (ns.map V.int) ∧ 0 ≤ k ∧ ∀ z, Q (.int z) H
def sp_law_box : Sp := fun vs H Q _ => ∃ z : Int, vs = [.int z] ∧ ∀ p o, H p = none → BoxAt (upd H p o) p 0 → Q (.ref p) (upd H p o)
def sp_law_take : Sp := fun vs H Q _ => ∃ (H0 : Hp) (p : Addr) (n : Nat) (m : Int), vs = [.ref p, .int m] ∧ BoxIn H0 H p n ∧ n < 1000000 ∧ 0 < m ∧ m < 1000000 ∧
  ∀ (z : Int) (H' : Hp), 0 ≤ z → z < m → BoxIn H0 H' p (n + 1) → Q (.int z) H'
/-- what the law's promise is: a list of at most 63 ints is handed in, True comes out -/
def sp_law (K : PySem.W.Frag) : Sp := fun vs H Q _ => ∃ (a : Addr) (ns : List Int), vs = [.ref a] ∧ SqL K H a (ns.map V.int) ∧ ns.length ≤ 63 ∧ ∀ H', Q (.bl true) H'
/-! ### values as data -/
theorem same_t {K : PySem.W.Frag} {H H' : Hp} {a : Addr} {xs : List V} (e : Same H H') (h : SqT K H a xs) : SqT K H' a xs := by
  rcases h with (h | ⟨o, h⟩) | h
  · exact .inl (.inl (e _ _ h))
  · exact .inl (.inr ⟨o, e _ _ h⟩)
  · exact .inr h
mutual
theorem dp_mono {K : PySem.W.Frag} {H H' : Hp} (e : Same H H') : ∀ {v : V} {d : PyData}, Dp K H v d → Dp K H' v d
  | _, _, .non => .non
  | _, _, .bl b => .bl b
  | _, _, .int i => .int i
  | _, _, .str x => .str x
  | _, _, .lst h a => .lst (e.seq h) (dpAll_mono e a)
  | _, _, .tup h a => .tup (same_t e h) (dpAll_mono e a)
theorem dpAll_mono {K : PySem.W.Frag} {H H' : Hp} (e : Same H H') : ∀ {vs : List V} {ds : List PyData}, DpAll K H vs ds → DpAll K H' vs ds
  | _, _, .nil => .nil
  | _, _, .cons a b => .cons (dp_mono e a) (dpAll_mono e b)
end
theorem dpAll_get {K : PySem.W.Frag} {H : Hp} : ∀ {vs : List V} {ds : List PyData} {i : Nat} {v : V}, DpAll K H vs ds → vs[i]? = some v → ∃ d, ds[i]? = some d ∧ Dp K H v d
  | _, _, 0, _, .cons a _, h => ⟨_, rfl, by cases h; exact a⟩
  | _, _, i + 1, _, .cons _ b, h => dpAll_get (i := i) b h
theorem dpAll_len {K : PySem.W.Frag} {H : Hp} : ∀ {vs : List V} {ds : List PyData}, DpAll K H vs ds → vs.length = ds.length
  | _, _, .nil => rfl
  | _, _, .cons _ b => congrArg (· + 1) (dpAll_len b)
theorem dpAll_strs {K : PySem.W.Frag} {H : Hp} : ∀ ss : List Str, DpAll K H (ss.map V.str) (ss.map PyData.str)
  | [] => .nil
  | s :: r => .cons (.str s) (dpAll_strs r)
theorem dpAll_bls {K : PySem.W.Frag} {H : Hp} : ∀ bs : List Bool, DpAll K H (bs.map V.bl) (bs.map PyData.bool)
  | [] => .nil
  | b :: r => .cons (.bl b) (dpAll_bls r)
theorem eqv_nil (ds : List PyData) : PyData.eqv (.list ds) (.list []) = ds.isEmpty := by
  cases ds with
  | nil => simp [PyData.eqv, PyData.eqvAll]
  | cons d r => simp [PyData.eqv, PyData.eqvAll]
theorem shaped_nil : SeqAt.shaped (.list []) = true := by decide +kernel
theorem canAll_mem {ds : List PyData} : PyData.canLayAll0 ds = true ↔ ∀ d ∈ ds, d.canLay0 = true := by
  induction ds with
  | nil => simp [PyData.canLayAll0]
  | cons d r ih => simp [PyData.canLayAll0, ih]
theorem depthAll_le {ds : List PyData} {n : Nat} (h : ∀ d ∈ ds, d.depth ≤ n) : PyData.depthAll ds ≤ n := by
  induction ds with
  | nil => simp [PyData.depthAll]
  | cons d r ih =>
    have h1 := h d (List.mem_cons_self)
    have h2 := ih fun x hx => h x (List.mem_cons_of_mem _ hx)
    simp only [PyData.depthAll]
    omega
theorem depthAll_mem {ds : List PyData} {d : PyData} (h : d ∈ ds) : d.depth ≤ PyData.depthAll ds := by
  induction ds with
  | nil => cases h
  | cons e r ih =>
    simp only [PyData.depthAll]
    rcases List.mem_cons.mp h with rfl | h
    · omega
    · have := ih h
      omega
theorem shaped_iff {d : PyData} : SeqAt.shaped d = true ↔ d.canLay0 = true ∧ d.depth ≤ 64 := by
  unfold SeqAt.shaped
  rw [Bool.and_eq_true, decide_eq_true_iff]
/-- a list of data that are d deep at most -/
theorem shaped_list {ds : List PyData} {n : Nat} (hn : n < 64) (h : ∀ d ∈ ds, d.canLay0 = true ∧ d.depth ≤ n) : SeqAt.shaped (.list ds) = true := by
  refine shaped_iff.mpr ⟨?_, ?_⟩
  · simp only [PyData.canLay0]
    exact canAll_mem.mpr fun d hd => (h d hd).1
  · have := depthAll_le fun d hd => (h d hd).2
    simp only [PyData.depth]
    omega
theorem shaped_of_tuple {ds : List PyData} (h : SeqAt.shaped (.tuple ds) = true) {d : PyData} (hd : d ∈ ds) : d.canLay0 = true ∧ d.depth ≤ 63 := by
  obtain ⟨h1, h2⟩ := shaped_iff.mp h
  simp only [PyData.canLay0] at h1
  simp only [PyData.depth] at h2
  have := depthAll_mem hd
  exact ⟨canAll_mem.mp h1 d hd, by omega⟩
/-- a value and what it is: data of any depth, or a dict (none) -/
inductive VD (K : PySem.W.Frag) (H : Hp) : V → Option PyData → Prop where
  | dat {v : V} {d : PyData} : Dp K H v d → SeqAt.shaped d = true → (∀ s, d = .str s → s.length ≤ 1000) → VD K H v (some d)
  | dic {a : Addr} {kvs : List (Key × V)} : H a = some (.dK kvs) → VD K H (.ref a) none
theorem VD.mono {K : PySem.W.Frag} {H H' : Hp} (e : Same H H') {v : V} {o : Option PyData} (h : VD K H v o) : VD K H' v o := by
  cases h with
  | dat a b c => exact .dat (dp_mono e a) b c
  | dic a => exact .dic (e _ _ a)
def tyD : PyData → String
  | .none => "NoneType" | .bool _ => "bool" | .int _ => "int" | .str _ => "str" | .list _ => "list" | .tuple _ => "tuple" | .dict _ => "dict"
def tyO : Option PyData → String
  | none => "dict"
  | some d => tyD d
theorem dp_ty {K : PySem.W.Frag} {H : Hp} {v : V} {d : PyData} (h : Dp K H v d) : TyX K H v (.type (tyD d)) := by
  cases h with
  | non => exact .base .non
  | bl b => exact .base (.bl b)
  | int i => exact .base (.int i)
  | str x => exact .base (.str x)
  | lst h _ =>
    rcases h with (h | ⟨o, h⟩) | ⟨o, its, n, h, c, _⟩
    · exact .base (.lst h)
    · exact .base (.frz h)
    · exact .kList h c
  | tup h _ =>
    rcases h with (h | ⟨o, h⟩) | ⟨o, its, n, h, c, _⟩
    · exact .base (.tup h)
    · exact .fTuple h
    · exact .kTuple h c
theorem VD.ty {K : PySem.W.Frag} {H : Hp} {v : V} {o : Option PyData} (h : VD K H v o) : TyX K H v (.type (tyO o)) := by
  cases h with
  | dat a _ _ => exact dp_ty a
  | dic a => exact .base (.dK a)
def isT (T : String) (o : Option PyData) : Bool := tyO o == T || (T == "int" && tyO o == "bool")
theorem tyO_mem (o : Option PyData) : tyO o = "NoneType" ∨ tyO o = "bool" ∨ tyO o = "int" ∨ tyO o = "str" ∨ tyO o = "list" ∨ tyO o = "tuple" ∨ tyO o = "dict" := by
  rcases o with _ | d
  · simp [tyO]
  · cases d <;> simp [tyO, tyD]
theorem kit_o {K : PySem.W.Frag} (o : Option PyData) {T : String} (hT : T = "int" ∨ T = "bool" ∨ T = "str" ∨ T = "tuple") : PySem.W.kitOne K (.type (tyO o)) (.type T) = some (isT T o) := by
  have h := tyO_mem o
  unfold isT
  generalize tyO o = nm at h ⊢
  rcases hT with rfl | rfl | rfl | rfl
  all_goals
    rcases h with rfl | rfl | rfl | rfl | rfl | rfl | rfl
    all_goals exact kit_ty (by decide +kernel)
def nonO : Option PyData → Bool
  | some .none => true
  | _ => false
theorem vd_non {K : PySem.W.Frag} {H : Hp} {v : V} {o : Option PyData} (h : VD K H v o) : decide (v = .non) = nonO o := by
  cases h with
  | dat a _ _ => cases a <;> rfl
  | dic a => rfl
theorem iteFe {c : Bool} {A B : Prop} (h : c = false) (q : B) : if c = true then A else B := by
  subst h
  exact iteF q
theorem iteTe {c : Bool} {A B : Prop} (h : c = true) (q : A) : if c = true then A else B := by
  subst h
  exact iteT q
theorem tyes {te : TE} {σ : L2.St} {H : Hp} {R : V → Hp → Prop} {S : Hp → Prop} (h : te σ H R) : tYes σ H (fun b H3 => if b = true then te σ H3 R else S H3) := by
  show (if true = true then te σ H R else S H)
  exact iteT h
/-! ### comprehensions that change nothing: acc i is what is made behind i turns -/
theorem lc_acc {J : It} {n : Nat} {G : Hp → Prop} {item : Nat → V → Prop} {g : TG} {tt : TT} {te : TE} {vs : List Nat} {σ : L2.St} {H1 : Hp} {D : Addr} {Qd : Hp → Prop} (w : Walk J n G (fun i H x H' => H' = H ∧ item i x)) (hD : H1 D = none) (hG : ∀ H, Same H1 H → G H) (acc : Nat → List V) (h0 : acc 0 = []) (hz : ∀ i, i < n → (acc i).length < sizeLine)
    (hs : ∀ (i : Nat) (x : V) (H : Hp), i < n → item i x → Same H1 H → ∀ (R : V → Hp → Prop) (S : Hp → Prop), (∀ y H4, acc (i + 1) = acc i ++ [y] → Same H H4 → R y H4) → (∀ H3, acc (i + 1) = acc i → Same H H3 → S H3) →
      g x (wipe σ vs) H fun σ2 H2 => wipe σ2 vs = wipe σ vs ∧ tt σ2 H2 fun b H3 => if b = true then te σ2 H3 R else S H3)
    (hd : ∀ H, Same H1 H → H D = some (.lst (acc n)) → Qd H) : ∃ W : Nat → Nat → Hp → Prop, (∃ m, W 0 m (upd H1 D (.lst []))) ∧ ∀ i m H, W i m H →
      (J.stop i H ∧ Qd H) ∨ (J.go i H ∧ ∃ Nx : Hp → Prop, (∀ H', Nx H' → ∃ m', m' < m ∧ W (i + 1) m' H') ∧ ∀ x H', J.yld i H x H' → g x (wipe σ vs) H' fun σ2 H2 => wipe σ2 vs = wipe σ vs ∧ tt σ2 H2 fun b H3 =>
        if b = true then te σ2 H3 fun y H4 => ∃ acc, H4 D = some (.lst acc) ∧ acc.length < sizeLine ∧ Nx (upd H4 D (.lst (acc ++ [y]))) else Nx H3) := by
  refine lc_it w (fun i H => Same H1 H ∧ H D = some (.lst (acc i))) ⟨fun b o e => ?_, ?_⟩ (fun i H _ p => hG H p.1) ?_ (fun H p => hd H p.1 p.2)
  · rw [upd_ne (ne_of_none e hD)]
    exact e
  · rw [upd_same, h0]
  · rintro i x H H' hi ⟨s1, hl⟩ ⟨rfl, hx⟩
    refine hs i x _ hi hx s1 _ _ (fun y H4 e s2 => ⟨acc i, s2 _ _ hl, hz i hi, ⟨fun b o eb => ?_, by rw [upd_same, e]⟩⟩) (fun H3 e s2 => ⟨s1.trans s2, by rw [e]; exact s2 _ _ hl⟩)
    rw [upd_ne (ne_of_none eb hD)]
    exact s2 _ _ (s1 _ _ eb)
/-! ### texts and their bounds -/
theorem same_new {H : Hp} {q : Addr} {o : HO} (h : H q = none) : Same H (upd H q o) := fun b u e => by
  rw [upd_ne (ne_of_none e h)]
  exact e
/-- at most n signs, all of them signs -/
def sOk (n : Nat) (s : Str) : Prop := s.length ≤ n ∧ PyData.strOk s = true
theorem strOk_iff {s : Str} : PyData.strOk s = true ↔ ∀ c ∈ s.cps.toList, c < 0x110000 := by
  unfold PyData.strOk
  rw [Array.all_eq_true']
  constructor
  · intro h c hc
    exact of_decide_eq_true (h c (by simpa using hc))
  · intro h c hc
    exact decide_eq_true (h c (by simpa using hc))
theorem sOk.mono {n m : Nat} {s : Str} (h : sOk n s) (e : n ≤ m) : sOk m s := ⟨Nat.le_trans h.1 e, h.2⟩
theorem sOk.app {n m : Nat} {a b : Str} (h : sOk n a) (k : sOk m b) : sOk (n + m) (a ++ b) := by
  refine ⟨?_, strOk_iff.mpr fun c hc => ?_⟩
  · rw [Str.length_append]
    exact Nat.add_le_add h.1 k.1
  · rw [Str.cps_append, Array.toList_append] at hc
    rcases List.mem_append.mp hc with q | q
    · exact strOk_iff.mp h.2 c q
    · exact strOk_iff.mp k.2 c q
theorem sOk.cut {n : Nat} {a : Str} (h : sOk n a) (lo hi : Option Int) : sOk n (cutS a lo hi) := by
  refine ⟨Nat.le_trans (cutS_length _ _ _) h.1, strOk_iff.mpr fun c hc => ?_⟩
  unfold cutS at hc
  have hc' : c ∈ a.cps.toList := List.mem_of_mem_drop (List.mem_of_mem_take (by simpa using hc))
  exact strOk_iff.mp h.2 c hc'
theorem joinL_nil : ∀ ps : List (List Nat), TL.joinL [] ps = ps.flatten
  | [] => rfl
  | [p] => by simp [TL.joinL]
  | p :: q :: r => by
    have ih := joinL_nil (q :: r)
    simp only [TL.joinL, ih]
    simp
theorem flat_len : ∀ (ys : List Str) (n : Nat), (∀ y ∈ ys, y.length ≤ n) → ((ys.map TL.tl).flatten).length ≤ ys.length * n
  | [], _, _ => by simp
  | y :: r, n, h => by
    have ih := flat_len r n fun z hz => h z (List.mem_cons_of_mem _ hz)
    have h1 : y.length ≤ n := h y List.mem_cons_self
    have h2 : (TL.tl y).length = y.length := by simp [TL.tl, Str.length]
    simp only [List.map_cons, List.flatten_cons, List.length_append, List.length_cons, Nat.add_mul, Nat.one_mul]
    omega
theorem join_ok {ys : List Str} {n : Nat} (h : ∀ y ∈ ys, sOk n y) : sOk (ys.length * n) (Txt.join Str.empty ys) := by
  have e : TL.tl (Txt.join Str.empty ys) = (ys.map TL.tl).flatten := by
    rw [TL.join_eq, TL.tl_join]
    exact joinL_nil _
  refine ⟨?_, strOk_iff.mpr fun c hc => ?_⟩
  · have h1 : (Txt.join Str.empty ys).length = (TL.tl (Txt.join Str.empty ys)).length := by simp [TL.tl, Str.length]
    rw [h1, e]
    exact flat_len ys n fun y hy => (h y hy).1
  · have hc' : c ∈ TL.tl (Txt.join Str.empty ys) := hc
    rw [e] at hc'
    obtain ⟨l, hl, hcl⟩ := List.mem_flatten.mp hc'
    obtain ⟨y, hy, rfl⟩ := List.mem_map.mp hl
    exact strOk_iff.mp (h y hy).2 c hcl
theorem sum_le : ∀ (ys : List Str) (n : Nat), (∀ y ∈ ys, y.length ≤ n) → (ys.map (·.length)).sum ≤ ys.length * n
  | [], _, _ => by simp
  | y :: r, n, h => by
    have ih := sum_le r n fun z hz => h z (List.mem_cons_of_mem _ hz)
    have h1 : y.length ≤ n := h y List.mem_cons_self
    simp only [List.map_cons, List.sum_cons, List.length_cons, Nat.add_mul, Nat.one_mul]
    omega
/-- an item at an open place within -/
theorem atI_in {α : Type} {xs : List α} {z : Int} (h0 : 0 ≤ z) (h1 : z < xs.length) : ∃ v, atI xs z = some v ∧ v ∈ xs := by
  obtain ⟨j, rfl⟩ := Int.eq_ofNat_of_zero_le h0
  have hj : j < xs.length := by omega
  exact ⟨xs[j], atI_nat (List.getElem?_eq_getElem hj), List.getElem_mem hj⟩
theorem op_mul_str {X : Cx} : OpR X (binaryOp .Mult) (fun x y H Q => ∃ z n, x = .str z ∧ y = .int n ∧ MulOk z n ∧ Q (.str (Txt.mul z n)) H) := by
  intro pins s σ H x y v u Q I rx ry h
  obtain ⟨z, n, rfl, rfl, hz, q⟩ := h
  obtain ⟨t, rfl⟩ := rx
  obtain ⟨t', rfl⟩ := ry
  exact SB.mul hz fun t' tk => ⟨.str (Txt.mul z n), H, I.tok _, ⟨_, rfl⟩, q⟩
theorem BoxIn.low {H0 H1 H : Hp} {p : Addr} {n : Nat} (b : BoxIn H1 H p n) (s : Same H0 H1) : BoxIn H0 H p n := ⟨s.trans b.same, s.free b.free, b.box⟩
theorem BoxIn.mut {H0 H : Hp} {p D : Addr} {n : Nat} {o : HO} (b : BoxIn H0 H p n) (h1 : D ≠ p) (h2 : H0 D = none) : BoxIn H0 (upd H D o) p n := by
  obtain ⟨d, s', c, h, hh⟩ := b.box
  refine ⟨fun x u e => ?_, b.free, d, s', c, by rw [upd_ne h1.symm]; exact h, hh⟩
  rw [upd_ne (ne_of_none e h2)]
  exact b.same _ _ e
/-- what a def draws: Good of the value, with what is known then -/
def sp_draw (c : Nat) (Good : Hp → V → Prop) : Sp := fun vs H Q _ => ∃ (H0 : Hp) (p : Addr) (n : Nat), vs = [.ref p] ∧ BoxIn H0 H p n ∧ n + c < 1000000 ∧ ∀ (H1 H' : Hp) (v : V), Same H0 H1 → BoxIn H1 H' p (n + c) → Good H1 v → Q v H'
/-! ### the mirror -/
def intO (o : Option PyData) : Bool := isT "int" o && !isT "bool" o
def limO (o : Option PyData) : Bool := nonO o || intO o
def okSign (c : Nat) : Bool := !decide (([c] : List Nat) < [97]) && !decide (([122] : List Nat) < [c])
def nameS (s : Str) : Bool := !(s == ("table" : Str)) && (decide ((1 : Int) ≤ s.length) && (decide ((s.length : Int) ≤ 8) && s.cps.toList.all okSign))
def nameO : Option PyData → Bool
  | some (.str s) => nameS s
  | _ => false
def ltO : PyData → PyData → Bool
  | .int i, .int j => decide (i < j)
  | _, _ => true
def spanO : Option PyData → Bool
  | some (.tuple [l, h]) => limO (some l) && (limO (some h) && ltO l h)
  | _ => false
theorem spanO_no {ds : List PyData} (h : ds.length ≠ 2) : spanO (some (.tuple ds)) = false := by
  match ds, h with
  | [], _ => rfl
  | [_], _ => rfl
  | [_, _], hl => exact absurd rfl hl
  | _ :: _ :: _ :: _, _ => rfl
theorem dp_two {K : PySem.W.Frag} {H : Hp} {xs : List V} {ds : List PyData} (h : DpAll K H xs ds) (e : xs.length = 2) : ∃ x y d e, xs = [x, y] ∧ ds = [d, e] ∧ Dp K H x d ∧ Dp K H y e := by
  match xs, ds, h, e with
  | [x, y], [d, e], .cons h1 (.cons h2 .nil), _ => exact ⟨x, y, d, e, rfl, rfl, h1, h2⟩
theorem spanO_ty {o : Option PyData} (e : isT "tuple" o = false) : spanO o = false := by
  rcases o with _ | d
  · rfl
  · cases d with
    | tuple s => cases e
    | _ => rfl
theorem nameO_no {o : Option PyData} (e : isT "str" o = false) : nameO o = false := by
  rcases o with _ | d
  · rfl
  · cases d with
    | str s => cases e
    | _ => rfl
theorem VD.str_of {K : PySem.W.Frag} {H : Hp} {v : V} {o : Option PyData} (hv : VD K H v o) (e : isT "str" o = true) : ∃ s, v = .str s ∧ o = some (.str s) ∧ s.length ≤ 1000 ∧ PyData.strOk s = true := by
  cases hv with
  | dat a b c =>
    cases a with
    | str s =>
      have := (shaped_iff.mp b).1
      simp only [PyData.canLay0] at this
      exact ⟨s, rfl, rfl, c s rfl, this⟩
    | _ => cases e
  | dic a => cases e
theorem VD.tup_of {K : PySem.W.Frag} {H : Hp} {v : V} {o : Option PyData} (hv : VD K H v o) (e : isT "tuple" o = true) : ∃ a xs ds, v = .ref a ∧ o = some (.tuple ds) ∧ SqT K H a xs ∧ DpAll K H xs ds ∧ SeqAt.shaped (.tuple ds) = true := by
  cases hv with
  | dat a b c =>
    cases a with
    | tup h1 h2 => exact ⟨_, _, _, rfl, rfl, h1, h2, b⟩
    | _ => cases e
  | dic a => cases e
theorem strOk_mem {s : Str} (h : PyData.strOk s = true) {c : Nat} (hc : c ∈ s.cps.toList) : c < 0x110000 := by
  unfold PyData.strOk at h
  rw [Array.all_eq_true'] at h
  exact of_decide_eq_true (h c (by simpa using hc))
theorem strOk_sign {c : Nat} (h : c < 0x110000) : PyData.strOk ⟨#[c]⟩ = true := by
  unfold PyData.strOk
  simp
  omega
/-- the values that are no limits -/
def filt : List V → List PyData → List V
  | x :: xs, d :: ds => if limO (some d) = true then filt xs ds else x :: filt xs ds
  | _, _ => []
theorem filt_len : ∀ (xs : List V) (ds : List PyData), (filt xs ds).length ≤ xs.length
  | [], _ => by simp [filt]
  | _ :: _, [] => by simp [filt]
  | x :: xs, d :: ds => by
    have ih := filt_len xs ds
    simp only [filt]
    split
    · simp only [List.length_cons]
      omega
    · simp only [List.length_cons]
      omega
theorem filt_step : ∀ {xs : List V} {ds : List PyData} {i : Nat} {x : V} {d : PyData}, xs[i]? = some x → ds[i]? = some d → filt (xs.take (i + 1)) (ds.take (i + 1)) = if limO (some d) = true then filt (xs.take i) (ds.take i) else filt (xs.take i) (ds.take i) ++ [x]
  | [], _, _, _, _, h, _ => by simp at h
  | _ :: _, [], _, _, _, _, h => by simp at h
  | y :: ys, e :: es, 0, x, d, h1, h2 => by
    cases h1
    cases h2
    simp [filt]
  | y :: ys, e :: es, i + 1, x, d, h1, h2 => by
    have ih := filt_step (xs := ys) (ds := es) (i := i) (x := x) (d := d) (by simpa using h1) (by simpa using h2)
    simp only [List.take_succ_cons, filt, ih]
    split <;> split <;> simp
theorem filt_dp {K : PySem.W.Frag} {H : Hp} : ∀ {xs : List V} {ds : List PyData}, DpAll K H xs ds → DpAll K H (filt xs ds) (ds.filter fun d => !limO (some d))
  | _, _, .nil => by simp [filt]; exact .nil
  | _, _, .cons (v := v) (d := d) a b => by
    have ih := filt_dp b
    simp only [filt]
    cases h : limO (some d) with
    | true =>
      simp [h]
      exact ih
    | false =>
      simp [h]
      exact .cons a ih
theorem okSign_is (c : Nat) : okSign c = decide (c ∈ ("abcdefghijklmnopqrstuvwxyz" : Str).cps.toList) := by
  have e : ("abcdefghijklmnopqrstuvwxyz" : Str).cps.toList = [97, 98, 99, 100, 101, 102, 103, 104, 105, 106, 107, 108, 109, 110, 111, 112, 113, 114, 115, 116, 117, 118, 119, 120, 121, 122] := by decide +kernel
  rw [e]
  unfold okSign
  rw [Bool.eq_iff_iff, Bool.and_eq_true, decide_eq_true_iff, Bool.not_eq_true', Bool.not_eq_true', decide_eq_false_iff_not, decide_eq_false_iff_not]
  simp only [List.cons_lt_cons_iff, List.not_lt_nil, and_false, or_false, List.mem_cons, List.not_mem_nil]
  omega
def sp_v1 (K : PySem.W.Frag) (f : Option PyData → Bool) : Sp := fun vs H Q _ => ∃ (v : V) (o : Option PyData), vs = [v] ∧ VD K H v o ∧ ∀ H', Same H H' → Q (.bl (f o)) H'
/-- the same without a word on the heap: nothing is made -/
def sp_v0 (K : PySem.W.Frag) (f : Option PyData → Bool) : Sp := fun vs H Q _ => ∃ (v : V) (d : PyData), vs = [v] ∧ Dp K H v d ∧ Q (.bl (f (some d))) H
def sp_vO (K : PySem.W.Frag) (f : Option PyData → Bool) : Sp := fun vs H Q _ => ∃ (v : V) (o : Option PyData), vs = [v] ∧ TyX K H v (.type (tyO o)) ∧ decide (v = .non) = nonO o ∧ Q (.bl (f o)) H
theorem dp_vO {K : PySem.W.Frag} {H : Hp} {v : V} {d : PyData} (h : Dp K H v d) : TyX K H v (.type (tyO (some d))) ∧ decide (v = .non) = nonO (some d) := by
  refine ⟨dp_ty h, ?_⟩
  cases h <;> rfl
theorem vd_vO {K : PySem.W.Frag} {H : Hp} {v : V} {o : Option PyData} (h : VD K H v o) : TyX K H v (.type (tyO o)) ∧ decide (v = .non) = nonO o := ⟨h.ty, vd_non h⟩
/-! ### what is raised -/
/-- an exception of the class at C leaves, with v as its field f -/
def Rz (H : Hp) (E : XK) (C : Addr) (f : Str) (v : V) : Prop := ∀ (d : Addr) (H' : Hp), H d = none → H' d = some (.xd [(f, v)]) → Same H H' → E (.ref C) (some d) H'
theorem Rz.back {H H1 : Hp} {E : XK} {C : Addr} {f : Str} {v : V} (s : Same H H1) (h : Rz H E C f v) : Rz H1 E C f v := fun d H' n x k => h d H' (s.free n) x (s.trans k)
/-- X.__init__: the one field -/
def sp_xinit (K : PySem.W.Frag) (C : Addr) (f : Str) : Sp := fun vs H Q _ => ∃ (a : Addr) (v : V), vs = [.ref a, v] ∧ OexC K C ∧ PySem.W.findIn K (.ref C) f = some none ∧ H a = some (exo a C none) ∧ ∀ dx, H dx = none → dx ≠ a → Q .non (upd (upd H dx (exd dx [(f, v)])) a (exo a C (some dx)))
/-- the reading of «raise X(v)» -/
theorem raise_x {K : PySem.W.Frag} {H : Hp} {E : XK} {C : Addr} {f : Str} {v : V} (x : OexC K C) (n : PySem.W.findIn K (.ref C) f = some none) (h : Rz H E C f v) : ([v] : List V).length ≤ 1000 ∧ ∀ a, H a = none → sp_xinit K C f (.ref a :: ([v] ++ [])) (upd H a (exo a C none))
    (fun v' H2 => v' = .non ∧ ∃ (d : Addr) (fs : List (Str × V)), H2 a = some (exo a C (some d)) ∧ H2 d = some (exd d fs) ∧ H d = none ∧ E (.ref C) (some d) (upd (del H2 a) d (.xd fs))) (fun _ _ _ => False) := by
  refine ⟨by show 1 ≤ 1000; decide, fun a ha => ⟨a, v, rfl, x, n, upd_same, fun dx hdx ne => ⟨rfl, dx, [(f, v)], upd_same, by rw [upd_ne ne, upd_same], ?_, ?_⟩⟩⟩
  · rw [upd_ne ne] at hdx
    exact hdx
  · rw [upd_ne ne] at hdx
    refine h dx _ hdx upd_same fun b o e => ?_
    have nb : b ≠ a := ne_of_none e ha
    have nd : b ≠ dx := ne_of_none e hdx
    rw [upd_ne nd, del_ne nb, upd_ne nb, upd_ne nd, upd_ne nb]
    exact e
/-! ### x in t, t a tuple, data of any depth -/
section
variable {X : Cx}
def rInT (K : PySem.W.Frag) : R2 := fun x y H Q => ∃ d ds, Dp K H x d ∧ Dp K H y (.tuple ds) ∧ SeqAt.shaped d = true ∧ SeqAt.shaped (.tuple ds) = true ∧ Q (.bl (ds.any fun z => PyData.eqv z d)) H
theorem op_inT (hu : X.A.units + 65 < cLine) : OpR X (compareOp .In) (rInT X.K) := by
  intro pins s σ H x y v u Q I rx ry h
  obtain ⟨d, ds, hd, he, sd, se, q⟩ := h
  obtain ⟨as, r1⟩ := Dp.reads I d x v hd rx
  obtain ⟨bs, r2⟩ := Dp.reads I (.tuple ds) y u he ry
  exact SeqAt.in_tuple_reads r2 r1 (SeqAt.canLay_of_shaped se) (SeqAt.canLay_of_shaped sd) (PyProof.Rows.room_in_shaped sd hu) ⟨.bl _, H, I, rfl, q⟩
end
/-! ### what stands written at the top: tuples of texts, dicts of such -/
def seqK (K : PySem.W.Frag) (a : Addr) : Option (List Value) := match K.lookup a with
  | some ⟨.type c, _, .seq its _, _⟩ => if (c == "tuple" && decide (its.size ≤ 1000)) = true then some its.toList else none
  | _ => none
def mapO {α β : Type} (f : α → Option β) : List α → Option (List β)
  | [] => some []
  | x :: r => (f x).bind fun y => (mapO f r).bind fun ys => some (y :: ys)
def datK (K : PySem.W.Frag) : Nat → Value → Option PyData
  | n, .str x _ => some (.str x)
  | n + 1, .ref a => (seqK K a).bind fun us => (mapO (datK K n) us).bind fun ds => some (.tuple ds)
  | _, _ => none
def nsD (K : PySem.W.Frag) (a : Addr) (x : Str) : Option PyData := match PySem.W.nsIn K a x with
  | some (some u) => datK K 4 u
  | _ => none
theorem seqK_ok {K : PySem.W.Frag} {a : Addr} {us : List Value} {xs : List V} (h : seqK K a = some us) (r : Vals xs us) (H : Hp) : SqT K H a xs := by
  unfold seqK at h
  split at h
  · rename_i c dd its n sl q
    split at h
    · rename_i z
      rw [Bool.and_eq_true] at z
      have e1 : c = "tuple" := of_decide_eq_true (by simpa using z.1)
      have e2 := of_decide_eq_true z.2
      have e3 : its.toList = us := Option.some.inj h
      subst e1 e3
      exact .inr ⟨_, its, n, q, rfl, rfl, Nat.le_trans e2 (by decide), r⟩
    · cases h
  · cases h
mutual
theorem datK_ok {K : PySem.W.Frag} : ∀ (n : Nat) {u : Value} {d : PyData}, datK K n u = some d → ∃ v, RelV v u ∧ ∀ H, Dp K H v d
  | 0, .str x t, d, h => by
    have e : PyData.str x = d := Option.some.inj (by simpa [datK] using h)
    subst e
    exact ⟨.str x, ⟨t, rfl⟩, fun H => .str x⟩
  | n + 1, .str x t, d, h => by
    have e : PyData.str x = d := Option.some.inj (by simpa [datK] using h)
    subst e
    exact ⟨.str x, ⟨t, rfl⟩, fun H => .str x⟩
  | n + 1, .ref a, d, h => by
    have h' : ((seqK K a).bind fun us => (mapO (datK K n) us).bind fun ds => some (.tuple ds)) = some d := by simpa [datK] using h
    cases e1 : seqK K a with
    | none => rw [e1] at h'; cases h'
    | some us =>
      rw [e1, Option.bind_some] at h'
      cases e2 : mapO (datK K n) us with
      | none => rw [e2] at h'; cases h'
      | some ds =>
        rw [e2, Option.bind_some] at h'
        have e3 : PyData.tuple ds = d := Option.some.inj h'
        subst e3
        obtain ⟨vs, r, q⟩ := datsK_ok n us e2
        exact ⟨.ref a, rfl, fun H => .tup (seqK_ok e1 r H) (q H)⟩
theorem datsK_ok {K : PySem.W.Frag} : ∀ (n : Nat) (us : List Value) {ds : List PyData}, mapO (datK K n) us = some ds → ∃ vs, Vals vs us ∧ ∀ H, DpAll K H vs ds
  | n, [], ds, h => by
    have e : [] = ds := Option.some.inj h
    subst e
    exact ⟨[], .nil, fun H => .nil⟩
  | n, u :: r, ds, h => by
    have h' : ((datK K n u).bind fun y => (mapO (datK K n) r).bind fun ys => some (y :: ys)) = some ds := h
    cases e1 : datK K n u with
    | none => rw [e1] at h'; cases h'
    | some d =>
      rw [e1, Option.bind_some] at h'
      cases e2 : mapO (datK K n) r with
      | none => rw [e2] at h'; cases h'
      | some es =>
        rw [e2, Option.bind_some] at h'
        have e3 : d :: es = ds := Option.some.inj h'
        subst e3
        obtain ⟨v, rv, qv⟩ := datK_ok n e1
        obtain ⟨vs, rvs, qvs⟩ := datsK_ok n r e2
        exact ⟨v :: vs, .cons rv rvs, fun H => .cons (qv H) (qvs H)⟩
end
/-- an item of a dict of the top -/
theorem nsD_ok {K : PySem.W.Frag} {w : World} {a : Addr} {tb : List (Str × PyData)} (l : ∃ es n, K.lookup a = some ⟨.type "dict", none, .dict es n, #[]⟩ ∧ PySem.W.KeysLit w.params es.toList) (h : tb.map (fun p => nsD K a p.1) = tb.map fun p => some p.2)
    {x : Str} {d : PyData} (m : (x, d) ∈ tb) : ∃ v, KDct K w a x v ∧ ∀ H, Dp K H v d := by
  have e : nsD K a x = some d := by
    have : ∀ {l : List (Str × PyData)}, l.map (fun p => nsD K a p.1) = l.map (fun p => some p.2) → (x, d) ∈ l → nsD K a x = some d := by
      intro l
      induction l with
      | nil => intro _ m; cases m
      | cons p r ih =>
        intro hl m
        rw [List.map_cons, List.map_cons] at hl
        injection hl with h1 h2
        rcases List.mem_cons.mp m with q | q
        · subst q; exact h1
        · exact ih h2 q
    exact this h m
  obtain ⟨es, n, hl, hk⟩ := l
  unfold nsD at e
  split at e
  · rename_i u q
    obtain ⟨v, rv, qv⟩ := datK_ok 4 e
    exact ⟨v, ⟨es, n, u, hl, hk, q, rv⟩, qv⟩
  · cases e
theorem relref {v : V} {a : Addr} (h : RelV v (.ref a)) : v = .ref a := by
  cases v with
  | ref b => cases h; rfl
  | _ => first | cases h; done | exact (by obtain ⟨_, h⟩ := h; exact absurd h (by simp))
theorem u65 {A : Around} {k : Nat} (hr : Room k A) : A.units + 65 < cLine := by
  have := hr.un
  omega
theorem dp_three {K : PySem.W.Frag} {H : Hp} {xs : List V} {ds : List PyData} (h : DpAll K H xs ds) (e : xs.length = 3) : ∃ x y z d e f, xs = [x, y, z] ∧ ds = [d, e, f] ∧ Dp K H x d ∧ Dp K H y e ∧ Dp K H z f := by
  match xs, ds, h, e with
  | [x, y, z], [d, e, f], .cons h1 (.cons h2 (.cons h3 .nil)), _ => exact ⟨x, y, z, d, e, f, rfl, rfl, h1, h2, h3⟩
/-! ### names drawn -/
/-- the items of l, in another order -/
def sp_mixed : Sp := fun vs H Q _ => ∃ (H0 : Hp) (p l : Addr) (n : Nat) (xs : List V), vs = [.ref p, .ref l] ∧ BoxIn H0 H p n ∧ H l = some (.lst xs) ∧ xs.length ≤ 100 ∧ n + xs.length < 1000000 ∧
  ∀ (q : Addr) (H' : Hp) (ys : List V), Same H0 H' → H0 q = none → q ≠ p → H' q = some (.lst ys) → ys.Perm xs → BoxIn H0 H' p (n + xs.length) → Q (.ref q) H'
/-- m names -/
def sp_names : Sp := fun vs H Q _ => ∃ (H0 : Hp) (p : Addr) (n m : Nat), vs = [.ref p, .int m] ∧ BoxIn H0 H p n ∧ m ≤ 13 ∧ n + 40 < 1000000 ∧
  ∀ (q : Addr) (H' : Hp) (ss : List Str), Same H0 H' → H0 q = none → q ≠ p → H' q = some (.lst (ss.map V.str)) → ss.length = m → (∀ s ∈ ss, sOk 16 s) → BoxIn H0 H' p (n + 40) → Q (.ref q) H'
theorem strs_of {W : List Str} : ∀ {xs : List V}, (∀ y ∈ xs, ∃ s, s ∈ W ∧ y = V.str s) → ∃ ss : List Str, xs = ss.map V.str ∧ ∀ s ∈ ss, s ∈ W
  | [], _ => ⟨[], rfl, fun s h => by cases h⟩
  | x :: r, h => by
    obtain ⟨s, hs, rfl⟩ := h x List.mem_cons_self
    obtain ⟨ss, rfl, h2⟩ := strs_of (xs := r) fun y hy => h y (List.mem_cons_of_mem _ hy)
    refine ⟨s :: ss, rfl, fun y hy => ?_⟩
    rcases List.mem_cons.mp hy with rfl | q
    · exact hs
    · exact h2 y q
/-! ### kinds and steps -/
def kindsL : List Str := ["put", "strike", "read", "direct", "hang", "take", "split", "join"]
def locksTb : List (Str × List Str) := [("put", ["table", "part"]), ("strike", ["table", "part"]), ("read", ["table", "part"]), ("direct", ["part"]), ("hang", ["table", "new", "rest"]), ("take", ["table", "old", "rest"]), ("split", ["table", "old", "new", "rest"]), ("join", ["table", "old", "new", "rest"])]
def stepsTb : List (Str × List (List Str)) := [("put", [["look"], ["again"], ["key"], ["put"], ["claim"], ["end"]]), ("strike", [["look"], ["again"], ["strike"], ["end"]]), ("read", [["look"], ["again"], ["view"], ["read"], ["end"]]), ("direct", [["border"], ["key"], ["put"], ["claim"], ["end"]]),
  ("hang", [["scan", "new"], ["scan", "rest"], ["switch"], ["wait"], ["close"], ["end"]]), ("take", [["switch"], ["wait"], ["close"], ["end"]]), ("split", [["move"], ["switch"], ["wait"], ["close"], ["end"]]), ("join", [["move"], ["switch"], ["wait"], ["close"], ["end"]])]
def locksT (k : Str) : List Str := ((locksTb.find? fun p => decide (p.1 = k)).map (·.2)).getD []
def stepsT (k : Str) : List (List Str) := ((stepsTb.find? fun p => decide (p.1 = k)).map (·.2)).getD []
def strsD (ss : List Str) : PyData := .tuple (ss.map .str)
def kindD (d : PyData) : Bool := (kindsL.map PyData.str).any fun z => PyData.eqv z d
theorem eqv_str_iff {s : Str} {d : PyData} (h : PyData.eqv (.str s) d = true) : d = .str s := by
  cases d with
  | str t =>
    have h' : (s == t) = true := by simpa [PyData.eqv] using h
    rw [eq_of_beq h']
  | _ => simp [PyData.eqv] at h
theorem eqv_str_iff2 {s : Str} {d : PyData} (h : PyData.eqv d (.str s) = true) : d = .str s := by
  cases d with
  | str t =>
    have h' : (t == s) = true := by simpa [PyData.eqv] using h
    rw [eq_of_beq h']
  | _ => simp [PyData.eqv] at h
theorem eqv_str_self (s : Str) : PyData.eqv (.str s) (.str s) = true := by simp [PyData.eqv]
theorem any_strs {ss : List Str} {s : Str} : ((ss.map PyData.str).any fun z => PyData.eqv z (.str s)) = decide (s ∈ ss) := by
  rw [Bool.eq_iff_iff, List.any_eq_true, decide_eq_true_iff]
  constructor
  · rintro ⟨z, hz, e⟩
    obtain ⟨t, ht, rfl⟩ := List.mem_map.mp hz
    have := eqv_str_iff e
    injection this with h
    rw [h]
    exact ht
  · intro h
    exact ⟨_, List.mem_map.mpr ⟨s, h, rfl⟩, eqv_str_self s⟩
theorem kindD_str (s : Str) : kindD (.str s) = decide (s ∈ kindsL) := any_strs
theorem kindD_of {d : PyData} (h : kindD d = true) : ∃ s ∈ kindsL, d = .str s := by
  obtain ⟨z, hz, e⟩ := List.any_eq_true.mp h
  obtain ⟨s, hs, rfl⟩ := List.mem_map.mp hz
  exact ⟨s, hs, eqv_str_iff e⟩
theorem eqvAll_strs : ∀ (ss : List Str) {ds : List PyData}, PyData.eqvAll (ss.map .str) ds = true → ds = ss.map .str
  | [], ds, h => by
    cases ds with
    | nil => rfl
    | cons d r => simp [PyData.eqvAll] at h
  | s :: r, ds, h => by
    cases ds with
    | nil => simp [PyData.eqvAll] at h
    | cons d es =>
      have h' : (PyData.eqv (.str s) d && PyData.eqvAll (r.map .str) es) = true := by simpa [PyData.eqvAll] using h
      rw [Bool.and_eq_true] at h'
      rw [eqv_str_iff h'.1, eqvAll_strs r h'.2]
      rfl
theorem eqv_strs_self : ∀ ss : List Str, PyData.eqvAll (ss.map .str) (ss.map .str) = true
  | [] => by simp [PyData.eqvAll]
  | s :: r => by simp [PyData.eqvAll, eqv_str_self, eqv_strs_self r]
theorem any_strsD {L : List (List Str)} {ss : List Str} : ((L.map strsD).any fun z => PyData.eqv z (strsD ss)) = decide (ss ∈ L) := by
  rw [Bool.eq_iff_iff, List.any_eq_true, decide_eq_true_iff]
  constructor
  · rintro ⟨z, hz, e⟩
    obtain ⟨t, ht, rfl⟩ := List.mem_map.mp hz
    have e' : PyData.eqvAll (t.map .str) (ss.map .str) = true := by simpa [strsD, PyData.eqv] using e
    have := eqvAll_strs t e'
    have h2 : ss = t := by
      have inj : Function.Injective PyData.str := fun a b q => by injection q
      exact List.map_inj_right (fun a b q => by injection q) |>.mp this
    rw [h2]
    exact ht
  · intro h
    exact ⟨_, List.mem_map.mpr ⟨ss, h, rfl⟩, by simp [strsD, PyData.eqv, eqv_strs_self]⟩
theorem any_strsD_no {L : List (List Str)} {ds : List PyData} (h : ∀ ss : List Str, ds ≠ ss.map .str) : ((L.map strsD).any fun z => PyData.eqv z (.tuple ds)) = false := by
  cases e : (L.map strsD).any fun z => PyData.eqv z (.tuple ds) with
  | false => rfl
  | true =>
    obtain ⟨z, hz, e⟩ := List.any_eq_true.mp e
    obtain ⟨t, ht, rfl⟩ := List.mem_map.mp hz
    have e' : PyData.eqvAll (t.map .str) ds = true := by simpa [strsD, PyData.eqv] using e
    exact absurd (eqvAll_strs t e') (h t)
/-- what is_step tells of texts -/
def stepS (k : Str) : List Str → Bool
  | [a, b, c] => decide (a = "lock") && (decide (b ∈ locksT k) && nameS c)
  | ss => decide (ss ∈ stepsT k)
/-- .. and of all data -/
def stepD (k : Str) : List PyData → Bool
  | [a, b, c] => PyData.eqv a (.str "lock") && ((((locksT k).map PyData.str).any fun z => PyData.eqv z b) && nameO (some c))
  | ds => ((stepsT k).map strsD).any fun z => PyData.eqv z (.tuple ds)
theorem stepD_strs (k : Str) (ss : List Str) : stepD k (ss.map .str) = stepS k ss := by
  match ss with
  | [a, b, c] =>
    show (PyData.eqv (.str a) (.str "lock") && ((((locksT k).map PyData.str).any fun z => PyData.eqv z (.str b)) && nameS c)) = _
    rw [any_strs]
    have : PyData.eqv (.str a) (.str "lock") = decide (a = "lock") := by
      rw [Bool.eq_iff_iff, decide_eq_true_iff]
      exact ⟨fun h => by have := eqv_str_iff2 h; injection this, fun h => by rw [h]; exact eqv_str_self _⟩
    rw [this]
    rfl
  | [] => exact any_strsD (ss := [])
  | [a] => exact any_strsD (ss := [a])
  | [a, b] => exact any_strsD (ss := [a, b])
  | a :: b :: c :: d :: r => exact any_strsD (ss := a :: b :: c :: d :: r)
theorem stepD_no {k : Str} {ds : List PyData} (h : ∀ ss : List Str, ds ≠ ss.map .str) : stepD k ds = false := by
  match ds, h with
  | [a, b, c], h =>
    show (PyData.eqv a (.str "lock") && ((((locksT k).map PyData.str).any fun z => PyData.eqv z b) && nameO (some c))) = false
    cases e1 : PyData.eqv a (.str "lock") with
    | false => rfl
    | true =>
      cases e2 : ((locksT k).map PyData.str).any fun z => PyData.eqv z b with
      | false => rfl
      | true =>
        cases c with
        | str c =>
          obtain ⟨z, hz, e⟩ := List.any_eq_true.mp e2
          obtain ⟨t, ht, rfl⟩ := List.mem_map.mp hz
          exact absurd (by rw [eqv_str_iff2 e1, eqv_str_iff e]; rfl) (h ["lock", t, c])
        | _ => rfl
  | [], h => exact any_strsD_no h
  | [a], h => exact any_strsD_no h
  | [a, b], h => exact any_strsD_no h
  | a :: b :: c :: d :: r, h => exact any_strsD_no h
def stepO (k : Str) : Option PyData → Bool
  | some (.tuple ds) => stepD k ds
  | _ => false
theorem stepO_ty {k : Str} {o : Option PyData} (e : isT "tuple" o = false) : stepO k o = false := by
  rcases o with _ | d
  · rfl
  · cases d with
    | tuple s => cases e
    | _ => rfl
theorem kinds_shaped : SeqAt.shaped (.tuple (kindsL.map PyData.str)) = true := by decide +kernel
theorem locks_shaped {k : Str} (h : k ∈ kindsL) : SeqAt.shaped (strsD (locksT k)) = true := by
  have all : ∀ k ∈ kindsL, SeqAt.shaped (strsD (locksT k)) = true := by decide +kernel
  exact all k h
theorem steps_shaped {k : Str} (h : k ∈ kindsL) : SeqAt.shaped (.tuple ((stepsT k).map strsD)) = true := by
  have all : ∀ k ∈ kindsL, SeqAt.shaped (.tuple ((stepsT k).map strsD)) = true := by decide +kernel
  exact all k h
theorem stepD_else {k : Str} {ds : List PyData} (h : ds.length ≠ 3) : stepD k ds = ((stepsT k).map strsD).any fun z => PyData.eqv z (.tuple ds) := by
  match ds, h with
  | [], _ => rfl
  | [_], _ => rfl
  | [_, _], _ => rfl
  | [_, _, _], h => exact absurd rfl h
  | _ :: _ :: _ :: _ :: _, _ => rfl
theorem shaped_item {d : PyData} (h : d.canLay0 = true ∧ d.depth ≤ 63) : SeqAt.shaped d = true := shaped_iff.mpr ⟨h.1, by omega⟩
/-- the texts within a tuple are short -/
def shortO (o : Option PyData) : Prop := ∀ ds, o = some (.tuple ds) → ds.length ≤ 100 ∧ ∀ s, PyData.str s ∈ ds → s.length ≤ 1000
def sp_kind (K : PySem.W.Frag) : Sp := fun vs H Q _ => ∃ (v : V) (d : PyData), vs = [v] ∧ Dp K H v d ∧ SeqAt.shaped d = true ∧ Q (.bl (kindD d)) H
def sp_rkind (K : PySem.W.Frag) (C : Addr) : Sp := fun vs H Q E => ∃ (v : V) (d : PyData), vs = [v] ∧ Dp K H v d ∧ SeqAt.shaped d = true ∧ (kindD d = true → Q .non H) ∧ (kindD d = false → Rz H E C "kind" v)
def sp_is_step (K : PySem.W.Frag) (C : Addr) : Sp := fun vs H Q E => ∃ (x y : V) (o : Option PyData) (d : PyData), vs = [x, y] ∧ VD K H x o ∧ shortO o ∧ Dp K H y d ∧ SeqAt.shaped d = true ∧ (kindD d = false → Rz H E C "kind" y) ∧
  ∀ k, d = .str k → k ∈ kindsL → ∀ H', Same H H' → Q (.bl (stepO k o)) H'
/-! ### dicts from texts to lists of texts -/
def getO (tb : List (Str × List Str)) (w : Str) : Option (List Str) := (tb.find? fun p => decide (p.1 = w)).map (·.2)
inductive KvT (H : Hp) : List (Key × V) → List (Str × List Str) → Prop where
  | nil : KvT H [] []
  | cons {s : Str} {ss : List Str} {a : Addr} {kvs : List (Key × V)} {tb : List (Str × List Str)} : H a = some (.lst (ss.map V.str)) → KvT H kvs tb → KvT H ((.inr s, .ref a) :: kvs) ((s, ss) :: tb)
theorem KvT.mono {H H' : Hp} {kvs : List (Key × V)} {tb : List (Str × List Str)} (h : KvT H kvs tb) (e : Same H H') : KvT H' kvs tb := by
  induction h with
  | nil => exact .nil
  | cons a _ ih => exact .cons (e _ _ a) ih
theorem KvT.get {H : Hp} {kvs : List (Key × V)} {tb : List (Str × List Str)} (h : KvT H kvs tb) (w : Str) : (getO tb w = none ∧ valV kvs (.inr w) = none) ∨ ∃ a ss, getO tb w = some ss ∧ valV kvs (.inr w) = some (.ref a) ∧ H a = some (.lst (ss.map V.str)) := by
  induction h with
  | nil => exact .inl ⟨rfl, rfl⟩
  | @cons s ss a kvs tb h1 h2 ih =>
    by_cases e : s = w
    · refine .inr ⟨a, ss, ?_, ?_, h1⟩
      · simp [getO, e]
      · exact valV_pos (p := (Sum.inr s, V.ref a)) (by rw [e])
    · have e1 : getO ((s, ss) :: tb) w = getO tb w := by simp [getO, List.find?_cons, e]
      have e2 : valV (((Sum.inr s : Key), V.ref a) :: kvs) (.inr w) = valV kvs (.inr w) := valV_neg (fun q => e (by injection q))
      rw [e1, e2]
      exact ih
theorem KvT.snoc {H : Hp} {kvs : List (Key × V)} {tb : List (Str × List Str)} (h : KvT H kvs tb) {w : Str} {ss : List Str} {a : Addr} (ha : H a = some (.lst (ss.map V.str))) : KvT H (kvs ++ [(.inr w, .ref a)]) (tb ++ [(w, ss)]) := by
  induction h with
  | nil => exact .cons ha .nil
  | cons h1 _ ih => exact .cons h1 ih
theorem KvT.put {H : Hp} {kvs : List (Key × V)} {tb : List (Str × List Str)} (h : KvT H kvs tb) {w : Str} {ss : List Str} {a : Addr} (ha : H a = some (.lst (ss.map V.str))) (n : (getO tb w).isNone = true) : KvT H (putK kvs (.inr w) (.ref a)) (tb ++ [(w, ss)]) := by
  have e : (kvs.any fun kv => decide (kv.1 = (Sum.inr w : Key))) = false := by
    rw [valV_any]
    rcases h.get w with ⟨_, e⟩ | ⟨_, _, e, _, _⟩
    · rw [e]; rfl
    · rw [e] at n
      cases n
  unfold putK
  rw [e]
  exact h.snoc ha
def freshT : List (Str × List Str) → List (Str × List Str) → Bool
  | _, [] => true
  | tb, p :: r => (getO tb p.1).isNone && freshT (tb ++ [p]) r
theorem KvT.merge {H : Hp} {more : List (Key × V)} {tb2 : List (Str × List Str)} (h2 : KvT H more tb2) : ∀ {kvs : List (Key × V)} {tb : List (Str × List Str)}, KvT H kvs tb → freshT tb tb2 = true → KvT H (mergeK kvs more) (tb ++ tb2) := by
  induction h2 with
  | nil => intro kvs tb h _; rw [List.append_nil]; exact h
  | @cons s ss a more tb2 ha _ ih =>
    intro kvs tb h f
    have f' : ((getO tb s).isNone && freshT (tb ++ [(s, ss)]) tb2) = true := f
    rw [Bool.and_eq_true] at f'
    have := ih (h.put ha f'.1) f'.2
    rw [List.append_assoc] at this
    exact this
theorem KvT.len {H : Hp} {kvs : List (Key × V)} {tb : List (Str × List Str)} (h : KvT H kvs tb) : kvs.length = tb.length := by
  induction h with
  | nil => rfl
  | cons _ _ ih => simp [ih]
theorem KvT.over {H : Hp} {kvs x : List (Key × V)} {tb : List (Str × List Str)} {pd : Addr} {o : HO} (hd : H pd = some (.dK x)) (h : KvT H kvs tb) : KvT (upd H pd o) kvs tb := by
  induction h with
  | nil => exact .nil
  | @cons s ss a kvs tb h1 _ ih =>
    refine .cons ?_ ih
    rw [upd_ne fun e => by rw [e, hd] at h1; cases h1]
    exact h1
theorem same_but {G H : Hp} {pd : Addr} (s : Same G H) (h : G pd = none) : Same G (but H pd) := fun x u e => by
  rw [but_ne fun q => by rw [q, h] at e; cases e]
  exact s _ _ e
theorem in_strs (k : Str) (ss : List Str) : inV (.str k) (ss.map V.str) = decide (k ∈ ss) := by
  unfold inV
  rw [Bool.eq_iff_iff, List.any_eq_true, decide_eq_true_iff]
  constructor
  · rintro ⟨z, hz, e⟩
    obtain ⟨t, ht, rfl⟩ := List.mem_map.mp hz
    have : (t == k) = true := e
    rw [← eq_of_beq this]
    exact ht
  · intro h
    exact ⟨_, List.mem_map.mpr ⟨k, h, rfl⟩, by show (k == k) = true; simp⟩
theorem flat_strs (ss : List Str) : (ss.map V.str).all flatV = true := by
  rw [List.all_eq_true]
  intro x hx
  obtain ⟨s, _, rfl⟩ := List.mem_map.mp hx
  rfl
theorem same_over {G H : Hp} {o : HO} (s : Same G H) {pd : Addr} (h : G pd = none) : Same G (upd H pd o) := fun x u e => by
  rw [upd_ne fun q => by rw [q, h] at e; cases e]
  exact s _ _ e
/-! ### lists of whole numbers as data -/
theorem dpAll_ints {K : PySem.W.Frag} {H : Hp} : ∀ ns : List Int, DpAll K H (ns.map V.int) (ns.map PyData.int)
  | [] => .nil
  | n :: r => .cons (.int n) (dpAll_ints r)
theorem ints_shaped (ns : List Int) : SeqAt.shaped (.list (ns.map PyData.int)) = true := shaped_list (n := 0) (by decide) fun d hd => by
  obtain ⟨i, _, rfl⟩ := List.mem_map.mp hd
  exact ⟨rfl, by simp [PyData.depth]⟩
theorem eqvAll_ints : ∀ (a b : List Int), PyData.eqvAll (a.map .int) (b.map .int) = decide (a = b)
  | [], [] => by simp [PyData.eqvAll]
  | [], _ :: _ => by simp [PyData.eqvAll]
  | _ :: _, [] => by simp [PyData.eqvAll]
  | x :: r, y :: t => by
    have ih := eqvAll_ints r t
    simp only [List.map_cons, PyData.eqvAll, PyData.eqv, ih]
    rw [Bool.eq_iff_iff]
    simp
theorem eqv_ints (a b : List Int) : PyData.eqv (.list (a.map .int)) (.list (b.map .int)) = decide (a = b) := by
  rw [← eqvAll_ints]
  simp only [PyData.eqv]
/-! ### comprehensions over pairs that are made as they come -/
theorem lc_accE {J : It} {n : Nat} {G : Hp → Prop} {fx fy : Nat → Option V} {g : TG} {tt : TT} {te : TE} {vs : List Nat} {σ : L2.St} {H1 : Hp} {D : Addr} {Qd : Hp → Prop} (w : Walk J n G (YPair fx fy)) (hD : H1 D = none) (hG : ∀ H, Same H1 H → G H) (acc : Nat → List V) (h0 : acc 0 = []) (hz : ∀ i, i < n → (acc i).length < sizeLine)
    (hs : ∀ (i : Nat) (T : Addr) (x y : V) (H : Hp), i < n → fx i = some x → fy i = some y → Same H1 H → H T = some (.tup [x, y]) → ∀ (R : V → Hp → Prop) (S : Hp → Prop), (∀ z H4, acc (i + 1) = acc i ++ [z] → Same H H4 → R z H4) → (∀ H3, acc (i + 1) = acc i → Same H H3 → S H3) →
      g (.ref T) (wipe σ vs) H fun σ2 H2 => wipe σ2 vs = wipe σ vs ∧ tt σ2 H2 fun b H3 => if b = true then te σ2 H3 R else S H3)
    (hd : ∀ H, Same H1 H → H D = some (.lst (acc n)) → Qd H) : ∃ W : Nat → Nat → Hp → Prop, (∃ m, W 0 m (upd H1 D (.lst []))) ∧ ∀ i m H, W i m H →
      (J.stop i H ∧ Qd H) ∨ (J.go i H ∧ ∃ Nx : Hp → Prop, (∀ H', Nx H' → ∃ m', m' < m ∧ W (i + 1) m' H') ∧ ∀ x H', J.yld i H x H' → g x (wipe σ vs) H' fun σ2 H2 => wipe σ2 vs = wipe σ vs ∧ tt σ2 H2 fun b H3 =>
        if b = true then te σ2 H3 fun y H4 => ∃ acc, H4 D = some (.lst acc) ∧ acc.length < sizeLine ∧ Nx (upd H4 D (.lst (acc ++ [y]))) else Nx H3) := by
  refine lc_it w (fun i H => Same H1 H ∧ H D = some (.lst (acc i))) ⟨fun b o e => ?_, ?_⟩ (fun i H _ p => hG H p.1) ?_ (fun H p => hd H p.1 p.2)
  · rw [upd_ne (ne_of_none e hD)]
    exact e
  · rw [upd_same, h0]
  · rintro i v H H' hi ⟨s1, hl⟩ ⟨T, x, y, rfl, hT, rfl, ex, ey⟩
    have sT := same_new (o := .tup [x, y]) hT
    refine hs i T x y _ hi ex ey (s1.trans sT) upd_same _ _ (fun z H4 e s2 => ⟨acc i, s2 _ _ (sT _ _ hl), hz i hi, ⟨fun b o eb => ?_, by rw [upd_same, e]⟩⟩) (fun H3 e s2 => ⟨s1.trans (sT.trans s2), by rw [e]; exact s2 _ _ (sT _ _ hl)⟩)
    rw [upd_ne (ne_of_none eb hD)]
    exact s2 _ _ (sT _ _ (s1 _ _ eb))
/-! ### l.count(x), texts -/
section
variable {X : Cx}
def rCntS (K : PySem.W.Frag) : V → List V → Hp → VK → Prop := fun x xs H Q => ∃ (p : Addr) (ss : List Str) (z : Str), x = .ref p ∧ xs = [.str z] ∧ SqL K H p (ss.map V.str) ∧ Q (.int ((ss.filter fun w => decide (w = z)).length : Nat)) H
theorem countP_strs (z : Str) : ∀ {ss : List Str} {us : List Value}, Vals (ss.map V.str) us → us.countP (eqU (.str z)) = (ss.filter fun w => decide (w = z)).length
  | [], _, .nil => rfl
  | s :: r, _, .cons ⟨t, e⟩ k => by
    subst e
    have ih := countP_strs z k
    have e1 : eqU (.str z) (Value.str s t) = decide (s = z) := by
      show (s == z) = decide (s = z)
      rw [Bool.eq_iff_iff, beq_iff_eq, decide_eq_true_iff]
    rw [List.countP_cons, ih, e1, List.filter_cons]
    by_cases h : s = z
    · simp [h]
    · simp [h]
theorem mt_countS : MtR X "list.count" (rCntS X.K) := by
  intro pins s σ H x xs v us Q I rx rxs h
  obtain ⟨p, ss, z, rfl, rfl, hs, q⟩ := h
  cases rx
  obtain ⟨u, hu1, t, hu2⟩ := vals1 rxs
  subst hu1
  subst hu2
  obtain ⟨its, rv, pl, _⟩ := I.list hs
  obtain ⟨⟨cls, dd, data, sl⟩, n, ho, hc, _, hd⟩ := pl
  simp only at hc hd
  subst hc hd
  refine call_meets PySem.F.slot_list_count ⟨_, ho, rfl⟩ PySem.F.entry_list_count (PySem.F.args_list_count_2 _ _)
    (SeqAt.list_countAt p its.toArray n dd sl (.str z t) (eqU (.str z))) ⟨ho, fun y hy => (mem_eqAt (x := .str z) ⟨t, rfl⟩ rfl rv (flat_strs ss) y (by simpa using hy)), ?_⟩
  refine ⟨.int ((ss.filter fun w => decide (w = z)).length : Nat), H, I.tok _, ⟨s.toks, ?_⟩, q⟩
  show Value.int ((its.toArray.toList.countP (eqU (.str z)) : Nat) : Int) s.toks = _
  have e : its.toArray.toList.countP (eqU (.str z)) = (ss.filter fun w => decide (w = z)).length := countP_strs z (by simpa using rv)
  rw [e]
end
/-! ### the law's own steps -/
def askersL : List Str := ["put", "strike", "read"]
def changesL : List Str := ["hang", "take", "split", "join"]
def atTb : List (Str × List Str) := [("table", askersL ++ changesL), ("part", askersL ++ (["direct"] : List Str)), ("old", ["take", "split", "join"]), ("rest", changesL), ("new", ["hang", "split", "join"])]
def whereTb : List (Str × List Str) := [("look", askersL), ("again", askersL), ("border", ["direct"]), ("strike", ["strike"]), ("end", kindsL), ("key", ["put", "direct"]), ("put", ["put", "direct"]), ("claim", ["put", "direct"]), ("view", ["read"]), ("read", ["read"]), ("switch", changesL), ("wait", changesL), ("close", changesL), ("move", ["split", "join"])]
def lockR (k : Str) : List Str → Bool
  | [b, c] => nameS c && decide (k ∈ (getO atTb b).getD [])
  | _ => false
def whereR (k a : Str) : List Str → Bool
  | [] => decide (k ∈ (getO whereTb a).getD [])
  | _ => false
def lawS (k : Str) : List Str → Bool
  | [] => false
  | a :: r => if a = "lock" then lockR k r else if a = "scan" then decide (k = "hang") && decide (r ∈ ([["new"], ["rest"]] : List (List Str))) else whereR k a r
def wordsW : List Str := ["look", "again", "border", "strike", "end", "key", "put", "claim", "view", "read", "switch", "wait", "close", "move", "lock", "scan"]
theorem getO_none {tb : List (Str × List Str)} {w : Str} (h : ∀ p ∈ tb, p.1 ≠ w) : getO tb w = none := by
  induction tb with
  | nil => rfl
  | cons p r ih =>
    have e1 : ¬ p.1 = w := h p List.mem_cons_self
    have := ih fun q hq => h q (List.mem_cons_of_mem _ hq)
    simpa [getO, List.find?_cons, e1] using this
theorem steps_len : ∀ k ∈ kindsL, ∀ t ∈ stepsT k, (t.length = 1 ∧ (∀ x ∈ t, x ∈ wordsW)) ∨ (t.length = 2 ∧ k = "hang" ∧ (t = (["scan", "new"] : List Str) ∨ t = (["scan", "rest"] : List Str))) := by decide +kernel
theorem one_law : ∀ k ∈ kindsL, ∀ a ∈ wordsW, stepS k [a] = lawS k [a] := by decide +kernel
theorem lock_law : ∀ k ∈ kindsL, ∀ b ∈ (["table", "part", "old", "new", "rest"] : List Str), decide (b ∈ locksT k) = decide (k ∈ (getO atTb b).getD []) := by decide +kernel
theorem lock_in : ∀ k ∈ kindsL, ∀ b ∈ locksT k, b ∈ (["table", "part", "old", "new", "rest"] : List Str) := by decide +kernel
theorem scan_in : (["scan", "new"] : List Str) ∈ stepsT "hang" ∧ (["scan", "rest"] : List Str) ∈ stepsT "hang" := by decide +kernel
theorem stepS_law {k : Str} (hk : k ∈ kindsL) (ss : List Str) : stepS k ss = lawS k ss := by
  match ss with
  | [] =>
    have all : ∀ k ∈ kindsL, stepS k [] = lawS k [] := by decide +kernel
    exact all k hk
  | [a] =>
    by_cases ha : a ∈ wordsW
    · exact one_law k hk a ha
    · have e1 : stepS k [a] = false := by
        refine decide_eq_false fun h => ?_
        rcases steps_len k hk _ h with ⟨_, h2⟩ | ⟨h2, _⟩
        · exact ha (h2 a List.mem_cons_self)
        · cases h2
      have n1 : ¬ a = "lock" := fun e => ha (by rw [e]; decide +kernel)
      have n2 : ¬ a = "scan" := fun e => ha (by rw [e]; decide +kernel)
      have n3 : getO whereTb a = none := getO_none fun p hp e => ha (by
        have all : ∀ p ∈ whereTb, p.1 ∈ wordsW := by decide +kernel
        rw [← e]
        exact all p hp)
      rw [e1]
      show false = if a = "lock" then lockR k [] else if a = "scan" then decide (k = "hang") && decide ([] ∈ ([["new"], ["rest"]] : List (List Str))) else decide (k ∈ (getO whereTb a).getD [])
      rw [if_neg n1, if_neg n2, n3]
      rfl
  | [a, b] =>
    have e : stepS k [a, b] = decide ([a, b] ∈ stepsT k) := rfl
    rw [e]
    show _ = if a = "lock" then false else if a = "scan" then decide (k = "hang") && decide ([b] ∈ ([["new"], ["rest"]] : List (List Str))) else false
    by_cases n1 : a = "lock"
    · rw [if_pos n1]
      refine decide_eq_false fun h => ?_
      rcases steps_len k hk _ h with ⟨h2, _⟩ | ⟨_, _, h2 | h2⟩
      · cases h2
      · injection h2 with h3 _
        rw [n1] at h3
        exact absurd h3 (by decide +kernel)
      · injection h2 with h3 _
        rw [n1] at h3
        exact absurd h3 (by decide +kernel)
    · rw [if_neg n1]
      by_cases n2 : a = "scan"
      · rw [if_pos n2, Bool.eq_iff_iff, Bool.and_eq_true, decide_eq_true_iff, decide_eq_true_iff, decide_eq_true_iff]
        constructor
        · intro h
          rcases steps_len k hk _ h with ⟨h2, _⟩ | ⟨_, h1, h2 | h2⟩
          · cases h2
          · injection h2 with _ h3
            exact ⟨h1, by rw [h3]; decide +kernel⟩
          · injection h2 with _ h3
            exact ⟨h1, by rw [h3]; decide +kernel⟩
        · rintro ⟨h1, h2⟩
          rw [h1, n2]
          rcases List.mem_cons.mp h2 with h3 | h3
          · rw [h3]; exact scan_in.1
          · rw [List.mem_singleton.mp h3]; exact scan_in.2
      · rw [if_neg n2]
        refine decide_eq_false fun h => ?_
        rcases steps_len k hk _ h with ⟨h2, _⟩ | ⟨_, _, h2 | h2⟩
        · cases h2
        · injection h2 with h3 _
          exact n2 h3
        · injection h2 with h3 _
          exact n2 h3
  | [a, b, c] =>
    show (decide (a = "lock") && (decide (b ∈ locksT k) && nameS c)) = if a = "lock" then nameS c && decide (k ∈ (getO atTb b).getD []) else if a = "scan" then decide (k = "hang") && decide ([b, c] ∈ ([["new"], ["rest"]] : List (List Str))) else false
    have e : decide (b ∈ locksT k) = decide (k ∈ (getO atTb b).getD []) := by
      by_cases hb : b ∈ (["table", "part", "old", "new", "rest"] : List Str)
      · exact lock_law k hk b hb
      · have n3 : getO atTb b = none := getO_none fun p hp e => hb (by
          have all : ∀ p ∈ atTb, p.1 ∈ (["table", "part", "old", "new", "rest"] : List Str) := by decide +kernel
          rw [← e]
          exact all p hp)
        rw [n3, decide_eq_false fun h => hb (lock_in k hk b h)]
        rfl
    by_cases n1 : a = "lock"
    · rw [if_pos n1, decide_eq_true n1, e, Bool.true_and, Bool.and_comm]
    · rw [if_neg n1, decide_eq_false n1, Bool.false_and]
      by_cases n2 : a = "scan"
      · rw [if_pos n2]
        have : decide ([b, c] ∈ ([["new"], ["rest"]] : List (List Str))) = false := decide_eq_false fun h => by
          rcases List.mem_cons.mp h with h3 | h3
          · cases h3
          · cases List.mem_singleton.mp h3
        rw [this, Bool.and_false]
      · rw [if_neg n2]
  | a :: b :: c :: d :: r =>
    have e1 : stepS k (a :: b :: c :: d :: r) = false := by
      refine decide_eq_false fun h => ?_
      rcases steps_len k hk _ h with ⟨h2, _⟩ | ⟨h2, _⟩
      · simp at h2
      · simp at h2
    rw [e1]
    show false = if a = "lock" then false else if a = "scan" then decide (k = "hang") && decide ((b :: c :: d :: r) ∈ ([["new"], ["rest"]] : List (List Str))) else false
    by_cases n1 : a = "lock"
    · rw [if_pos n1]
    · rw [if_neg n1]
      by_cases n2 : a = "scan"
      · rw [if_pos n2]
        have : decide ((b :: c :: d :: r) ∈ ([["new"], ["rest"]] : List (List Str))) = false := decide_eq_false fun h => by
          rcases List.mem_cons.mp h with h3 | h3
          · cases h3
          · cases List.mem_singleton.mp h3
        rw [this, Bool.and_false]
      · rw [if_neg n2]
def sp_law_kinds : Sp := fun vs H Q _ => vs = [] ∧ ∀ p, H p = none → Q (.ref p) (upd H p (.lst (kindsL.map V.str)))
def sp_law_is_step (K : PySem.W.Frag) : Sp := fun vs H Q _ => ∃ (v : V) (o : Option PyData) (k : Str), vs = [v, .str k] ∧ VD K H v o ∧ shortO o ∧ k ∈ kindsL ∧ ∀ H', Same H H' → Q (.bl (stepO k o)) H'
def notStr : PyData → Bool
  | .str _ => false
  | _ => true
/-- those of which f holds -/
def filtG (f : PyData → Bool) : List V → List PyData → List V
  | x :: xs, d :: ds => if f d = true then x :: filtG f xs ds else filtG f xs ds
  | _, _ => []
theorem filtG_len (f : PyData → Bool) : ∀ (xs : List V) (ds : List PyData), (filtG f xs ds).length ≤ xs.length
  | [], _ => by simp [filtG]
  | _ :: _, [] => by simp [filtG]
  | x :: xs, d :: ds => by
    have ih := filtG_len f xs ds
    simp only [filtG]
    split
    · simp only [List.length_cons]
      omega
    · simp only [List.length_cons]
      omega
theorem filtG_step {f : PyData → Bool} : ∀ {xs : List V} {ds : List PyData} {i : Nat} {x : V} {d : PyData}, xs[i]? = some x → ds[i]? = some d → filtG f (xs.take (i + 1)) (ds.take (i + 1)) = if f d = true then filtG f (xs.take i) (ds.take i) ++ [x] else filtG f (xs.take i) (ds.take i)
  | [], _, _, _, _, h, _ => by simp at h
  | _ :: _, [], _, _, _, _, h => by simp at h
  | y :: ys, e :: es, 0, x, d, h1, h2 => by
    cases h1
    cases h2
    simp [filtG]
  | y :: ys, e :: es, i + 1, x, d, h1, h2 => by
    have ih := filtG_step (f := f) (xs := ys) (ds := es) (i := i) (x := x) (d := d) (by simpa using h1) (by simpa using h2)
    simp only [List.take_succ_cons, filtG, ih]
    split <;> split <;> simp
theorem filtG_dp {K : PySem.W.Frag} {H : Hp} {f : PyData → Bool} : ∀ {xs : List V} {ds : List PyData}, DpAll K H xs ds → DpAll K H (filtG f xs ds) (ds.filter f)
  | _, _, .nil => by simp [filtG]; exact .nil
  | _, _, .cons (v := v) (d := d) a b => by
    have ih := filtG_dp (f := f) b
    simp only [filtG]
    cases h : f d with
    | true =>
      simp [h]
      exact .cons a ih
    | false =>
      simp [h]
      exact ih
theorem strs_ds : ∀ {ds : List PyData}, (ds.filter notStr).isEmpty = true → ∃ ss : List Str, ds = ss.map .str
  | [], _ => ⟨[], rfl⟩
  | d :: r, h => by
    cases d with
    | str s =>
      obtain ⟨ss, e⟩ := strs_ds (ds := r) (by simpa [notStr] using h)
      exact ⟨s :: ss, by rw [e]; rfl⟩
    | _ => simp [notStr] at h
theorem strs_ds_no {ds : List PyData} (h : (ds.filter notStr).isEmpty = false) (ss : List Str) : ds ≠ ss.map .str := by
  intro e
  rw [e] at h
  have : (ss.map PyData.str).filter notStr = [] := by
    rw [List.filter_eq_nil_iff]
    intro a ha
    obtain ⟨s, _, rfl⟩ := List.mem_map.mp ha
    simp [notStr]
  rw [this] at h
  cases h
theorem dp_strs {K : PySem.W.Frag} {H : Hp} : ∀ {ss : List Str} {xs : List V}, DpAll K H xs (ss.map .str) → xs = ss.map V.str
  | [], _, .nil => rfl
  | s :: r, _, .cons a b => by
    cases a
    rw [dp_strs b]
    rfl
theorem strsD_shaped {ss : List Str} (h : ∀ s ∈ ss, SeqAt.shaped (.str s) = true) : SeqAt.shaped (strsD ss) = true := by
  refine shaped_iff.mpr ⟨?_, ?_⟩
  · simp only [strsD, PyData.canLay0]
    refine canAll_mem.mpr fun d hd => ?_
    obtain ⟨s, hs, rfl⟩ := List.mem_map.mp hd
    exact (shaped_iff.mp (h s hs)).1
  · have : PyData.depthAll (ss.map .str) ≤ 0 := depthAll_le fun d hd => by
      obtain ⟨s, hs, rfl⟩ := List.mem_map.mp hd
      simp [PyData.depth]
    simp only [strsD, PyData.depth]
    omega
/-! ### atoms: short texts, 5, None -/
def At (v : V) : Prop := (∃ s, v = .str s ∧ sOk 16 s) ∨ v = .int 5 ∨ v = .non
def atD : V → PyData
  | .str s => .str s
  | .int i => .int i
  | _ => .none
theorem At.dp {v : V} (h : At v) : (∀ (K : PySem.W.Frag) (H : Hp), Dp K H v (atD v)) ∧ (atD v).canLay0 = true ∧ (atD v).depth ≤ 0 ∧ ∀ s, atD v = .str s → s.length ≤ 1000 := by
  rcases h with ⟨s, rfl, hs⟩ | rfl | rfl
  · refine ⟨fun K H => .str s, ?_, by simp [atD, PyData.depth], fun t e => ?_⟩
    · simp only [atD, PyData.canLay0]
      exact hs.2
    · injection e with e
      rw [← e]
      exact Nat.le_trans hs.1 (by decide)
  · exact ⟨fun K H => .int 5, rfl, by simp [atD, PyData.depth], fun t e => nomatch e⟩
  · exact ⟨fun K H => .non, rfl, by simp [atD, PyData.depth], fun t e => nomatch e⟩
theorem ats_dp {K : PySem.W.Frag} {H : Hp} : ∀ {xs : List V}, (∀ v ∈ xs, At v) → DpAll K H xs (xs.map atD)
  | [], _ => .nil
  | x :: r, h => .cons ((h x List.mem_cons_self).dp.1 K H) (ats_dp fun v hv => h v (List.mem_cons_of_mem _ hv))
theorem ats_shaped {xs : List V} (h : ∀ v ∈ xs, At v) : SeqAt.shaped (.tuple (xs.map atD)) = true ∧ SeqAt.shaped (.list (xs.map atD)) = true := by
  have h1 : PyData.canLayAll0 (xs.map atD) = true := canAll_mem.mpr fun d hd => by
    obtain ⟨v, hv, rfl⟩ := List.mem_map.mp hd
    exact (h v hv).dp.2.1
  have h2 : PyData.depthAll (xs.map atD) ≤ 0 := depthAll_le fun d hd => by
    obtain ⟨v, hv, rfl⟩ := List.mem_map.mp hd
    exact (h v hv).dp.2.2.1
  refine ⟨shaped_iff.mpr ⟨by simp only [PyData.canLay0]; exact h1, ?_⟩, shaped_iff.mpr ⟨by simp only [PyData.canLay0]; exact h1, ?_⟩⟩
  · simp only [PyData.depth]
    omega
  · simp only [PyData.depth]
    omega
theorem ats_tup {K : PySem.W.Frag} {H : Hp} {t : Addr} {xs : List V} (h : ∀ v ∈ xs, At v) (hl : xs.length ≤ 100) (ht : H t = some (.tup xs)) : ∃ o, VD K H (.ref t) o ∧ shortO o := by
  refine ⟨some (.tuple (xs.map atD)), .dat (.tup (SqT.of ht) (ats_dp h)) (ats_shaped h).1 (fun s e => nomatch e), fun ds e => ?_⟩
  injection e with e
  injection e with e
  rw [← e]
  refine ⟨by rw [List.length_map]; exact hl, fun s hs => ?_⟩
  obtain ⟨v, hv, q⟩ := List.mem_map.mp hs
  exact (h v hv).dp.2.2.2 s q
theorem ats_lst {K : PySem.W.Frag} {H : Hp} {t : Addr} {xs : List V} (h : ∀ v ∈ xs, At v) (ht : H t = some (.lst xs)) : ∃ o, VD K H (.ref t) o ∧ shortO o :=
  ⟨some (.list (xs.map atD)), .dat (.lst (SqL.of ht) (ats_dp h)) (ats_shaped h).2 (fun s e => nomatch e), fun ds e => by cases e⟩
theorem at_strs {ss : List Str} (h : ∀ s ∈ ss, sOk 16 s) : ∀ v ∈ ss.map V.str, At v := fun v hv => by
  obtain ⟨s, hs, rfl⟩ := List.mem_map.mp hv
  exact .inl ⟨s, rfl, h s hs⟩
def sp_drawn_step : Sp := fun vs H Q _ => ∃ (H0 : Hp) (p m : Addr) (n : Nat) (ms : List Str), vs = [.ref p, .ref m] ∧ BoxIn H0 H p n ∧ H0 m = some (.lst (ms.map V.str)) ∧ 0 < ms.length ∧ ms.length ≤ 100 ∧ (∀ s ∈ ms, sOk 16 s) ∧ n + 10 < 1000000 ∧
  ∀ (H1 H' : Hp) (t : Addr) (ss : List Str), Same H0 H1 → BoxIn H1 H' p (n + 10) → H1 t = some (.tup (ss.map V.str)) → ss.length ≤ 3 → (∀ s ∈ ss, sOk 16 s) → Q (.ref t) H'
def sp_bent (K : PySem.W.Frag) : Sp := fun vs H Q _ => ∃ (H0 : Hp) (p t : Addr) (n : Nat) (ss : List Str), vs = [.ref p, .ref t] ∧ BoxIn H0 H p n ∧ H0 t = some (.tup (ss.map V.str)) ∧ ss.length ≤ 3 ∧ (∀ s ∈ ss, sOk 16 s) ∧ n + 10 < 1000000 ∧
  ∀ (H1 H' : Hp) (v : V), Same H0 H1 → BoxIn H1 H' p (n + 10) → (∃ o, VD K H1 v o ∧ shortO o) → Q v H'
/-- told of a raise, with the value itself -/
def Told1 (H : Hp) (Q : VK) (w : Str) (v : V) : Prop := ∀ p H', Same H H' → H p = none → H' p = some (.lst [.str w, v]) → Q (.ref p) H'
def sp_told (K : PySem.W.Frag) : Sp := fun vs H Q _ => ∃ (x y : V) (o : Option PyData) (d : PyData), vs = [x, y] ∧ VD K H x o ∧ shortO o ∧ Dp K H y d ∧ SeqAt.shaped d = true ∧ kindD d = false ∧ Told1 H Q "kind" y
theorem sure2 {w : Str} {v : V} (h : sureV v = true) : ([.str w, v] : List V).all sureV = true := by
  show (sureV (.str w) && (sureV v && true)) = true
  rw [h]
  rfl
/-! ### places, counts and orders in a list -/
def pAt {α : Type} (p : α → Bool) (xs : List α) (i : Nat) : Bool := match xs[i]? with
  | some x => p x
  | none => false
def poss {α : Type} (p : α → Bool) (xs : List α) (n : Nat) : List Nat := (List.range n).filter (pAt p xs)
theorem poss_step {α : Type} (p : α → Bool) (xs : List α) (n : Nat) : poss p xs (n + 1) = if pAt p xs n = true then poss p xs n ++ [n] else poss p xs n := by
  unfold poss
  rw [List.range_succ, List.filter_append]
  cases h : pAt p xs n with
  | true => simp [h]
  | false => simp [h]
theorem poss_len {α : Type} (p : α → Bool) (xs : List α) (n : Nat) : (poss p xs n).length ≤ n := by
  unfold poss
  have := List.length_filter_le (pAt p xs) (List.range n)
  rw [List.length_range] at this
  exact this
theorem mem_poss {α : Type} {p : α → Bool} {xs : List α} {i : Nat} : i ∈ poss p xs xs.length ↔ ∃ x, xs[i]? = some x ∧ p x = true := by
  unfold poss pAt
  rw [List.mem_filter, List.mem_range]
  constructor
  · rintro ⟨h1, h2⟩
    rw [List.getElem?_eq_getElem h1] at h2
    exact ⟨_, List.getElem?_eq_getElem h1, h2⟩
  · rintro ⟨x, h1, h2⟩
    refine ⟨(List.getElem?_eq_some_iff.mp h1).1, ?_⟩
    rw [h1]
    exact h2
theorem poss_map {α β : Type} (f : α → β) (p : β → Bool) (xs : List α) (n : Nat) : poss p (xs.map f) n = poss (fun x => p (f x)) xs n := by
  unfold poss
  congr 1
  funext i
  unfold pAt
  rw [List.getElem?_map]
  cases xs[i]? <;> rfl
theorem poss_congr {α : Type} {p q : α → Bool} {xs : List α} (h : ∀ x ∈ xs, p x = q x) (n : Nat) : poss p xs n = poss q xs n := by
  unfold poss
  congr 1
  funext i
  unfold pAt
  cases e : xs[i]? with
  | none => rfl
  | some x => exact h x (List.mem_of_getElem? e)
theorem filter_map_len {α β : Type} (f : α → β) (p : β → Bool) (xs : List α) : ((xs.map f).filter p).length = (xs.filter fun x => p (f x)).length := by
  rw [List.filter_map, List.length_map]
  rfl
/-! ### conditions of a list, and which follow from others when all items are in A -/
inductive Cd (α : Type) where
  | a (p : α → Bool)
  | one (p : α → Bool)
  | le (p : α → Bool)
  | ord (p q : α → Bool)
  | imp (p q : α → Bool)
  | nand (p q : α → Bool)
def Cd.holds {α : Type} (ts : List α) : Cd α → Prop
  | .a p => poss p ts ts.length = [ts.length - 1]
  | .one p => (ts.filter p).length = 1
  | .le p => (ts.filter p).length ≤ 1
  | .ord p q => ∀ i ∈ poss p ts ts.length, ∀ j ∈ poss q ts ts.length, i < j
  | .imp p q => (∃ x ∈ ts, p x = true) → ∃ x ∈ ts, q x = true
  | .nand p q => ¬ ((∃ x ∈ ts, p x = true) ∧ ∃ x ∈ ts, q x = true)
def eqm {α : Type} (A : List α) (p q : α → Bool) : Bool := A.all fun x => p x == q x
def subm {α : Type} (A : List α) (p q : α → Bool) : Bool := A.all fun x => !p x || q x
def nom {α : Type} (A : List α) (p : α → Bool) : Bool := A.all fun x => !p x
def Cd.gives {α : Type} (A : List α) : Cd α → Cd α → Bool
  | .a q, .a p => eqm A p q
  | .one q, .one p => eqm A p q
  | .le q, .le p => subm A p q
  | .one q, .le p => subm A p q
  | .imp p' q', .imp p q => subm A p p' && subm A q' q
  | .nand p' q', .nand p q => subm A p p' && subm A q q'
  | _, _ => false
def Cd.cov {α : Type} (x y : α) : Cd α → Bool
  | .ord p q => p x && q y
  | .nand p q => (p x && q y) || (p y && q x)
  | _ => false
def Cd.none {α : Type} (A : List α) : Cd α → Bool
  | .le p => nom A p
  | .imp p _ => nom A p
  | .nand p q => nom A p || nom A q
  | _ => false
def Cd.from {α : Type} (A : List α) (L : List (Cd α)) (c : Cd α) : Bool := c.none A || (L.any fun d => d.gives A c) || (match c with
  | .ord p q => A.all fun x => A.all fun y => !(p x && q y) || L.any fun d => d.cov x y
  | _ => false)
section
variable {α : Type} {A ts : List α}
theorem filter_congr' {p q : α → Bool} (hA : ∀ x ∈ ts, x ∈ A) (h : eqm A p q = true) : ts.filter p = ts.filter q := by
  refine List.filter_congr fun x hx => ?_
  exact eq_of_beq (List.all_eq_true.mp h x (hA x hx))
theorem sub_of {p q : α → Bool} (h : subm A p q = true) {x : α} (hx : x ∈ A) (hp : p x = true) : q x = true := by
  have := List.all_eq_true.mp h x hx
  rw [hp] at this
  simpa using this
theorem no_of {p : α → Bool} (h : nom A p = true) {x : α} (hx : x ∈ A) : p x = false := by
  have := List.all_eq_true.mp h x hx
  simpa using this
theorem filter_sub_len {p q : α → Bool} (hA : ∀ x ∈ ts, x ∈ A) (h : subm A p q = true) : (ts.filter p).length ≤ (ts.filter q).length := by
  induction ts with
  | nil => exact Nat.le_refl _
  | cons x r ih =>
    have ih := ih fun y hy => hA y (List.mem_cons_of_mem _ hy)
    have hs := fun e : p x = true => sub_of h (hA x List.mem_cons_self) e
    cases e : p x with
    | true => simp [e, hs e]; omega
    | false =>
      cases e2 : q x with
      | true => simp [e, e2]; omega
      | false => simp [e, e2]; omega
theorem Cd.gives_ok (hA : ∀ x ∈ ts, x ∈ A) {d c : Cd α} (h : d.gives A c = true) (hd : d.holds ts) : c.holds ts := by
  cases d <;> cases c <;> simp only [Cd.gives] at h <;> try cases h
  case a.a q p =>
    have e : poss p ts ts.length = poss q ts ts.length := poss_congr (fun x hx => eq_of_beq (List.all_eq_true.mp h x (hA x hx))) _
    show poss p ts ts.length = _
    rw [e]
    exact hd
  case one.one q p =>
    show (ts.filter p).length = 1
    rw [filter_congr' hA h]
    exact hd
  case one.le q p =>
    have hd : (ts.filter q).length = 1 := hd
    have := filter_sub_len hA h
    show (ts.filter p).length ≤ 1
    omega
  case le.le q p =>
    have hd : (ts.filter q).length ≤ 1 := hd
    have := filter_sub_len hA h
    show (ts.filter p).length ≤ 1
    omega
  case imp.imp p' q' p q =>
    rw [Bool.and_eq_true] at h
    rintro ⟨x, hx, e⟩
    obtain ⟨y, hy, f⟩ := hd ⟨x, hx, sub_of h.1 (hA x hx) e⟩
    exact ⟨y, hy, sub_of h.2 (hA y hy) f⟩
  case nand.nand p' q' p q =>
    rw [Bool.and_eq_true] at h
    rintro ⟨⟨x, hx, e⟩, y, hy, f⟩
    exact hd ⟨⟨x, hx, sub_of h.1 (hA x hx) e⟩, y, hy, sub_of h.2 (hA y hy) f⟩
theorem Cd.none_ok (hA : ∀ x ∈ ts, x ∈ A) {c : Cd α} (h : c.none A = true) : c.holds ts := by
  cases c <;> simp only [Cd.none] at h <;> try cases h
  case le p =>
    have : ts.filter p = [] := by
      rw [List.filter_eq_nil_iff]
      intro x hx
      rw [no_of h (hA x hx)]
      decide
    show (ts.filter p).length ≤ 1
    rw [this]
    exact Nat.zero_le _
  case imp p q =>
    rintro ⟨x, hx, e⟩
    rw [no_of h (hA x hx)] at e
    cases e
  case nand p q =>
    rintro ⟨⟨x, hx, e⟩, y, hy, f⟩
    rw [Bool.or_eq_true] at h
    rcases h with h | h
    · rw [no_of h (hA x hx)] at e
      cases e
    · rw [no_of h (hA y hy)] at f
      cases f
theorem Cd.from_ok (hA : ∀ x ∈ ts, x ∈ A) {L : List (Cd α)} (hL : ∀ d ∈ L, d.holds ts) {c : Cd α} (h : c.from A L = true) : c.holds ts := by
  unfold Cd.from at h
  rw [Bool.or_eq_true, Bool.or_eq_true] at h
  rcases h with (h | h) | h
  · exact Cd.none_ok hA h
  · obtain ⟨d, hd, e⟩ := List.any_eq_true.mp h
    exact Cd.gives_ok hA e (hL d hd)
  · cases c with
    | ord p q =>
      intro i hi j hj
      obtain ⟨x, hx, px⟩ := mem_poss.mp hi
      obtain ⟨y, hy, qy⟩ := mem_poss.mp hj
      have mx := List.mem_of_getElem? hx
      have my := List.mem_of_getElem? hy
      have h2 := List.all_eq_true.mp (List.all_eq_true.mp h x (hA x mx)) y (hA y my)
      rw [px, qy] at h2
      have h3 : (L.any fun d => d.cov x y) = true := by simpa using h2
      obtain ⟨d, hd, e⟩ := List.any_eq_true.mp h3
      have hh := hL d hd
      cases d <;> simp only [Cd.cov] at e <;> try cases e
      case ord p' q' =>
        rw [Bool.and_eq_true] at e
        exact hh i (mem_poss.mpr ⟨x, hx, e.1⟩) j (mem_poss.mpr ⟨y, hy, e.2⟩)
      case nand p' q' =>
        rw [Bool.or_eq_true, Bool.and_eq_true, Bool.and_eq_true] at e
        rcases e with e | e
        · exact absurd ⟨⟨x, mx, e.1⟩, y, my, e.2⟩ hh
        · exact absurd ⟨⟨y, my, e.1⟩, x, mx, e.2⟩ hh
    | _ => cases h
/-- one of r in all, q and c of r: p brings q, so p and c are not together -/
theorem nand_of {p q c r : α → Bool} (h1 : (Cd.one r).holds ts) (h2 : (Cd.imp p q).holds ts) (hq : ∀ x, q x = true → r x = true) (hc : ∀ x, c x = true → r x = true) (hqc : ∀ x, q x = true → c x = true → False) : (Cd.nand p c).holds ts := by
  rintro ⟨hp, y, hy, cy⟩
  obtain ⟨x, hx, qx⟩ := h2 hp
  have l : (ts.filter r).length = 1 := h1
  obtain ⟨z, e⟩ := List.length_eq_one_iff.mp l
  have ex : x ∈ ts.filter r := List.mem_filter.mpr ⟨hx, hq x qx⟩
  have ey : y ∈ ts.filter r := List.mem_filter.mpr ⟨hy, hc y cy⟩
  rw [e] at ex ey
  rw [List.mem_singleton.mp ex] at qx
  rw [List.mem_singleton.mp ey] at cy
  exact hqc z qx cy
theorem imp_of {p q c r : α → Bool} (h1 : (Cd.one r).holds ts) (h2 : (Cd.nand p c).holds ts) (hr : ∀ x, r x = true → q x = true ∨ c x = true) : (Cd.imp p q).holds ts := by
  intro hp
  have l : (ts.filter r).length = 1 := h1
  obtain ⟨z, e⟩ := List.length_eq_one_iff.mp l
  have ez : z ∈ ts.filter r := by
    rw [e]
    exact List.mem_singleton.mpr rfl
  obtain ⟨hz, rz⟩ := List.mem_filter.mp ez
  rcases hr z rz with h | h
  · exact ⟨z, hz, h⟩
  · exact absurd ⟨hp, z, hz, h⟩ h2
end
/-! ### programs -/
def neededTb : List (Str × List (List Str)) := [("put", [["look"], ["put", "claim"]]), ("strike", [["look"], ["strike"]]), ("read", [["look"], ["view"], ["read"]]), ("direct", [["put", "claim"]]), ("hang", [["switch", "close"]]), ("take", [["switch", "close"]]), ("split", [["switch", "close"], ["move"]]), ("join", [["switch", "close"], ["move"]])]
def neededT (k : Str) : List (List Str) := ((neededTb.find? fun p => decide (p.1 = k)).map (·.2)).getD []
def onceT : List Str := ["border", "key", "scan new", "scan rest"]
def ordersT : List (List Str × List Str) := [(["look"], ["lock part", "again", "key", "put", "claim", "strike", "read"]), (["view"], ["read"]), (["border", "key", "again"], ["put", "claim", "strike", "read"]), (["move", "scan new", "scan rest"], ["switch", "close"]), (["switch"], ["wait"])]
/-- the first two words of a step -/
abbrev T2 : Type := List Str
def w1 (t : T2) : Str := Txt.join " " t
def w2 (t : T2) : Str := if t = (["lock", "part"] : List Str) then "part" else t.headD ""
def in1 (g : List Str) (t : T2) : Bool := decide (w1 t ∈ g)
def in2 (g : List Str) (t : T2) : Bool := decide (w2 t ∈ g)
def tsT (k : Str) : List T2 := stepsT k ++ (locksT k).map fun t => (["lock", t] : List Str)
def deedsL : List Str := ["put", "claim", "strike", "read"]
def partL : List Str := ["part", "again", "key", "put", "claim", "strike", "read"]
def progL (k : Str) : List (Cd T2) := [.a (in1 ["end", "close"])] ++ ((neededT k).map fun g => .one (in1 g)) ++ [.imp (in1 ["wait"]) (in1 ["switch"])] ++ (onceT.map fun w => .le (in1 [w])) ++ ordersT.map fun p => .ord (in1 p.1) (in1 p.2)
def firstK : List Str := ["put", "strike", "read", "direct"]
def lawL (k : Str) : List (Cd T2) := if k ∈ firstK then
    [.a (in2 ["end"]), .one (in2 deedsL), .le (in2 ["border"]), .le (in2 ["key"]), .ord (in2 ["border", "key", "again", "view"]) (in2 deedsL)] ++ (if k = "direct" then [] else [.one (in2 ["look"])] ++ (if k = "read" then [.one (in2 ["view"])] else []) ++ [.ord (in2 ["look"]) (in2 partL)])
  else [.a (in2 ["end", "close"]), .one (in2 ["switch", "close"]), .ord (in2 ["move", "scan"]) (in2 ["switch", "close"]), .ord (in2 ["switch", "close"]) (in2 ["wait"]), .nand (in2 ["wait"]) (in2 ["close"])] ++ (if k ∈ (["split", "join"] : List Str) then [.one (in2 ["move"])] else []) ++ [.le fun t => decide (t = (["scan", "new"] : List Str)), .le fun t => decide (t = (["scan", "rest"] : List Str))]
theorem law_of_prog1 : ∀ k ∈ firstK, (lawL k).all (Cd.from (tsT k) (progL k)) = true := by decide +kernel
theorem prog_of_law1 : ∀ k ∈ firstK, (progL k).all (Cd.from (tsT k) (lawL k)) = true := by decide +kernel
def nandX : Cd T2 := .nand (in1 ["wait"]) (in1 ["close"])
def impX : Cd T2 := .imp (in1 ["wait"]) (in1 ["switch"])
def oneX : Cd T2 := .one (in1 ["switch", "close"])
theorem law_of_prog2 : ∀ k ∈ changesL, (lawL k).all (Cd.from (tsT k) (nandX :: progL k)) = true := by decide +kernel
theorem prog_of_law2 : ∀ k ∈ changesL, (progL k).all (Cd.from (tsT k) (impX :: lawL k)) = true := by decide +kernel
theorem one_progP : ∀ k ∈ changesL, oneX.from (tsT k) (progL k) = true ∧ impX.from (tsT k) (progL k) = true := by decide +kernel
theorem one_lawP : ∀ k ∈ changesL, oneX.from (tsT k) (lawL k) = true ∧ nandX.from (tsT k) (lawL k) = true := by decide +kernel
theorem kinds_two : ∀ k ∈ kindsL, k ∈ firstK ∨ k ∈ changesL := by decide +kernel
theorem prog_law {k : Str} (hk : k ∈ kindsL) {ts : List T2} (hA : ∀ x ∈ ts, x ∈ tsT k) : (∀ d ∈ progL k, d.holds ts) ↔ ∀ d ∈ lawL k, d.holds ts := by
  rcases kinds_two k hk with h | h
  · exact ⟨fun q d hd => Cd.from_ok hA q (List.all_eq_true.mp (law_of_prog1 k h) d hd), fun q d hd => Cd.from_ok hA q (List.all_eq_true.mp (prog_of_law1 k h) d hd)⟩
  · have sc : ∀ x : T2, in1 ["switch"] x = true → in1 ["switch", "close"] x = true := fun x e => decide_eq_true (List.mem_cons.mpr (.inl (List.mem_singleton.mp (of_decide_eq_true e))))
    have cc : ∀ x : T2, in1 ["close"] x = true → in1 ["switch", "close"] x = true := fun x e => decide_eq_true (List.mem_cons_of_mem _ (of_decide_eq_true e))
    have no : ∀ x : T2, in1 ["switch"] x = true → in1 ["close"] x = true → False := fun x e f => by
      have e1 := List.mem_singleton.mp (of_decide_eq_true e)
      have e2 := List.mem_singleton.mp (of_decide_eq_true f)
      rw [e1] at e2
      exact absurd e2 (by decide +kernel)
    have or' : ∀ x : T2, in1 ["switch", "close"] x = true → in1 ["switch"] x = true ∨ in1 ["close"] x = true := fun x e => by
      rcases List.mem_cons.mp (of_decide_eq_true e) with q | q
      · exact .inl (decide_eq_true (List.mem_singleton.mpr q))
      · exact .inr (decide_eq_true q)
    refine ⟨fun q d hd => ?_, fun q d hd => ?_⟩
    · have h1 := Cd.from_ok hA q (one_progP k h).1
      have h2 := Cd.from_ok hA q (one_progP k h).2
      have h3 : nandX.holds ts := nand_of h1 h2 sc cc no
      refine Cd.from_ok hA (fun c hc => ?_) (List.all_eq_true.mp (law_of_prog2 k h) d hd)
      rcases List.mem_cons.mp hc with e | e
      · rw [e]; exact h3
      · exact q c e
    · have h1 := Cd.from_ok hA q (one_lawP k h).1
      have h2 := Cd.from_ok hA q (one_lawP k h).2
      have h3 : impX.holds ts := imp_of h1 h2 or'
      refine Cd.from_ok hA (fun c hc => ?_) (List.all_eq_true.mp (prog_of_law2 k h) d hd)
      rcases List.mem_cons.mp hc with e | e
      · rw [e]; exact h3
      · exact q c e
/-! ### promises of the programs' defs -/
def endsB (ws : List Str) : Bool := decide (poss (fun w => decide (w ∈ (["end", "close"] : List Str))) ws ws.length = [ws.length - 1])
def cntG (g : List Str) (ws : List Str) : Nat := (ws.filter fun w => decide (w ∈ g)).length
def hasB (k : Str) (ws : List Str) : Bool := ((neededT k).all fun g => decide (cntG g ws = 1)) && (!(decide (("wait" : Str) ∈ ws) && !decide (("switch" : Str) ∈ ws)) && onceT.all fun w => decide ((ws.filter fun x => decide (x = w)).length ≤ 1))
def befB (ws : List Str) (E L : List Str) : Bool := decide (∀ i ∈ poss (fun w => decide (w ∈ E)) ws ws.length, ∀ j ∈ poss (fun w => decide (w ∈ L)) ws ws.length, i < j)
def ordB (ws : List Str) : Bool := ordersT.all fun p => befB ws p.1 p.2
def sp_step_text (K : PySem.W.Frag) : Sp := fun vs H Q _ => ∃ (a : Addr) (t : List Str), vs = [.ref a] ∧ SqT K H a (t.map V.str) ∧ t.length ≤ 2 ∧ (∀ s ∈ t, s.length ≤ 1000) ∧ Q (.str (Txt.join " " t)) H
def sp_ws (K : PySem.W.Frag) (f : List Str → Bool) : Sp := fun vs H Q _ => ∃ (l : Addr) (ws : List Str), vs = [.ref l] ∧ SqL K H l (ws.map V.str) ∧ 1 ≤ ws.length ∧ ws.length ≤ 12 ∧ ∀ H', Same H H' → Q (.bl (f ws)) H'
def sp_has (K : PySem.W.Frag) : Sp := fun vs H Q _ => ∃ (l : Addr) (ws : List Str) (k : Str), vs = [.ref l, .str k] ∧ k ∈ kindsL ∧ SqL K H l (ws.map V.str) ∧ 1 ≤ ws.length ∧ ws.length ≤ 12 ∧ ∀ H', Same H H' → Q (.bl (hasB k ws)) H'
def sp_before (K : PySem.W.Frag) : Sp := fun vs H Q _ => ∃ (l e f : Addr) (ws E L : List Str), vs = [.ref l, .ref e, .ref f] ∧ SqL K H l (ws.map V.str) ∧ SqT K H e (E.map V.str) ∧ SqT K H f (L.map V.str) ∧ 1 ≤ ws.length ∧ ws.length ≤ 12 ∧ ∀ H', Same H H' → Q (.bl (befB ws E L)) H'
def wordsB (k : Str) (ws : List Str) : Bool := endsB ws && (hasB k ws && ordB ws)
def strD : PyData → Str
  | .str s => s
  | _ => ""
def wD : PyData → Str
  | .tuple es => w1 ((es.take 2).map strD)
  | _ => ""
def progD (k : Str) (ds : List PyData) : Bool := decide (1 ≤ ds.length ∧ ds.length ≤ 12) && ((ds.all fun d => stepO k (some d)) && wordsB k (ds.map wD))
def progO (k : Str) : Option PyData → Bool
  | some (.list ds) => progD k ds
  | _ => false
theorem progO_ty {k : Str} {o : Option PyData} (e : isT "list" o = false) : progO k o = false := by
  rcases o with _ | d
  · rfl
  · cases d with
    | list s => cases e
    | _ => rfl
theorem strD_strs (ss : List Str) : (ss.map PyData.str).map strD = ss := by
  rw [List.map_map]
  exact List.map_id'' (fun _ => rfl) ss
theorem wD_strs (ss : List Str) : wD (strsD ss) = w1 (ss.take 2) := by
  show w1 (((ss.map PyData.str).take 2).map strD) = _
  rw [← List.map_take, strD_strs]
theorem kit_oL {K : PySem.W.Frag} (o : Option PyData) : PySem.W.kitOne K (.type (tyO o)) (.type "list") = some (isT "list" o) := by
  have h := tyO_mem o
  unfold isT
  generalize tyO o = nm at h ⊢
  rcases h with rfl | rfl | rfl | rfl | rfl | rfl | rfl
  all_goals exact kit_ty (by decide +kernel)
theorem VD.lst_of {K : PySem.W.Frag} {H : Hp} {v : V} {o : Option PyData} (hv : VD K H v o) (e : isT "list" o = true) : ∃ a xs ds, v = .ref a ∧ o = some (.list ds) ∧ SqL K H a xs ∧ DpAll K H xs ds ∧ SeqAt.shaped (.list ds) = true := by
  cases hv with
  | dat a b c =>
    cases a with
    | lst h1 h2 => exact ⟨_, _, _, rfl, rfl, h1, h2, b⟩
    | _ => cases e
  | dic a => cases e
theorem shaped_of_list {ds : List PyData} (h : SeqAt.shaped (.list ds) = true) {d : PyData} (hd : d ∈ ds) : d.canLay0 = true ∧ d.depth ≤ 63 := by
  obtain ⟨h1, h2⟩ := shaped_iff.mp h
  simp only [PyData.canLay0] at h1
  simp only [PyData.depth] at h2
  have := depthAll_mem hd
  exact ⟨canAll_mem.mp h1 d hd, by omega⟩
theorem stepO_strs {k : Str} {d : PyData} (h : stepO k (some d) = true) : ∃ ss : List Str, d = strsD ss ∧ stepS k ss = true := by
  cases d with
  | tuple ds =>
    have h : stepD k ds = true := h
    by_cases e : (ds.filter notStr).isEmpty = true
    · obtain ⟨ss, rfl⟩ := strs_ds e
      rw [stepD_strs] at h
      exact ⟨ss, rfl, h⟩
    · rw [stepD_no (strs_ds_no (by simpa using e))] at h
      cases h
  | _ => cases h
theorem valid_strs {k : Str} : ∀ {ds : List PyData}, (∀ d ∈ ds, stepO k (some d) = true) → ∃ sss : List (List Str), ds = sss.map strsD ∧ ∀ ss ∈ sss, stepS k ss = true
  | [], _ => ⟨[], rfl, fun s h => by cases h⟩
  | d :: r, h => by
    obtain ⟨ss, rfl, hs⟩ := stepO_strs (h d List.mem_cons_self)
    obtain ⟨sss, rfl, hr⟩ := valid_strs (ds := r) fun x hx => h x (List.mem_cons_of_mem _ hx)
    refine ⟨ss :: sss, rfl, fun x hx => ?_⟩
    rcases List.mem_cons.mp hx with rfl | q
    · exact hs
    · exact hr x q
def progOk (o : Option PyData) : Prop := ∀ ds, o = some (.list ds) → ds.length ≤ 100 ∧ ∀ d ∈ ds, shortO (some d) ∧ ∀ s, d = .str s → s.length ≤ 1000
def sp_is_program (K : PySem.W.Frag) (C : Addr) : Sp := fun vs H Q E => ∃ (x y : V) (o : Option PyData) (d : PyData), vs = [x, y] ∧ VD K H x o ∧ progOk o ∧ Dp K H y d ∧ SeqAt.shaped d = true ∧ (kindD d = false → Rz H E C "kind" y) ∧
  ∀ k, d = .str k → k ∈ kindsL → ∀ H', Same H H' → Q (.bl (progO k o)) H'
theorem cut_take2 (ss : List Str) : cutV (ss.map V.str) none (some 2) = (ss.take 2).map V.str := by
  unfold cutV
  rw [HT.sIx_none, show (2 : Int) = ((2 : Nat) : Int) from rfl, HT.sIx_nat, List.length_map, List.drop_zero, Nat.sub_zero, List.map_take]
  by_cases h : 2 ≤ ss.length
  · rw [Nat.min_eq_left h]
  · rw [Nat.min_eq_right (by omega), List.take_of_length_le (by simp), List.take_of_length_le (by simp; omega)]
theorem whole2 {ss : List Str} (h : HT.sIx (ss.map V.str).length (ss.map V.str).length (some 2) = (ss.map V.str).length) : ss.take 2 = ss := by
  rw [show (2 : Int) = ((2 : Nat) : Int) from rfl, HT.sIx_nat, List.length_map] at h
  exact List.take_of_length_le (by omega)
/-! ### the law's side -/
def sp_count (K : PySem.W.Frag) : Sp := fun vs H Q _ => ∃ (l m : Addr) (ws g : List Str), vs = [.ref l, .ref m] ∧ H l = some (.lst (ws.map V.str)) ∧ H m = some (.lst (g.map V.str)) ∧ ws.length ≤ 12 ∧ ∀ H', Same H H' → Q (.int (cntG g ws : Nat)) H'
def befL (ws : List Str) (E L : List Str) : Bool := decide (∀ i ∈ poss (fun w => decide (w ∈ E)) ws ws.length, ∀ j ∈ poss (fun w => decide (w ∈ L)) ws ws.length, i ≤ j)
def sp_order (K : PySem.W.Frag) : Sp := fun vs H Q _ => ∃ (l e f : Addr) (ws E L : List Str), vs = [.ref l, .ref e, .ref f] ∧ H l = some (.lst (ws.map V.str)) ∧ H e = some (.lst (E.map V.str)) ∧ H f = some (.lst (L.map V.str)) ∧ ws.length ≤ 12 ∧ ∀ H', Same H H' → Q (.bl (befL ws E L)) H'
def sp_law_is_program (K : PySem.W.Frag) : Sp := fun vs H Q _ => ∃ (v : V) (o : Option PyData) (k : Str), vs = [v, .str k] ∧ VD K H v o ∧ progOk o ∧ k ∈ kindsL ∧ ∀ H', Same H H' → Q (.bl (progO k o)) H'
/-! ### both ways to say it are one -/
def lawW (sss : List (List Str)) : List Str := sss.map fun ss => w2 (ss.take 2)
def scansL (sss : List (List Str)) : List (List Str) := sss.filter fun ss => decide (ss.headD "" = "scan")
def lawE (k : Str) (sss : List (List Str)) : Bool :=
  decide ((lawW sss).getLastD "" ∈ (if k ∈ firstK then (["end"] : List Str) else ["end", "close"])) && (decide (cntG ["end", "close"] (lawW sss).dropLast = 0) &&
  (if k ∈ firstK then
    decide (cntG deedsL (lawW sss) = 1) && (decide (cntG ["border"] (lawW sss) ≤ 1) && (decide (cntG ["key"] (lawW sss) ≤ 1) && (befL (lawW sss) ["border", "key", "again", "view"] deedsL &&
    (if k = "direct" then true else decide (cntG ["look"] (lawW sss) = 1) && ((if k = "read" then decide (cntG ["view"] (lawW sss) = 1) else true) && befL (lawW sss) ["look"] partL)))))
  else decide (cntG ["switch", "close"] (lawW sss) = 1) && (befL (lawW sss) ["move", "scan"] ["switch", "close"] && (befL (lawW sss) ["switch", "close"] ["wait"] && (!(decide (("wait" : Str) ∈ lawW sss) && decide (("close" : Str) ∈ lawW sss)) &&
    ((if k ∈ (["split", "join"] : List Str) then decide (cntG ["move"] (lawW sss) = 1) else true) && decide (scansL sss).Nodup))))))
theorem take_ts {k : Str} (hk : k ∈ kindsL) {ss : List Str} (h : stepS k ss = true) : ss.take 2 ∈ tsT k := by
  have lit : ∀ s, stepsT k = stepsT k → s ∈ stepsT k → s.take 2 = s := fun s _ hs => by
    rcases steps_len k hk s hs with ⟨h1, _⟩ | ⟨h1, _⟩
    · exact List.take_of_length_le (by omega)
    · exact List.take_of_length_le (by omega)
  by_cases e : ss.length = 3
  · match ss, e with
    | [a, b, c], _ =>
      have h' : (decide (a = "lock") && (decide (b ∈ locksT k) && nameS c)) = true := h
      rw [Bool.and_eq_true, Bool.and_eq_true, decide_eq_true_iff, decide_eq_true_iff] at h'
      refine List.mem_append_right _ (List.mem_map.mpr ⟨b, h'.2.1, ?_⟩)
      rw [h'.1]
      rfl
  · have h' : ss ∈ stepsT k := by
      match ss, e, h with
      | [], _, h => exact of_decide_eq_true h
      | [_], _, h => exact of_decide_eq_true h
      | [_, _], _, h => exact of_decide_eq_true h
      | [_, _, _], e, _ => exact absurd rfl e
      | _ :: _ :: _ :: _ :: _, _, h => exact of_decide_eq_true h
    rw [lit ss rfl h']
    exact List.mem_append_left _ h'
section
variable {ts : List T2}
theorem cnt1 (g : List Str) : cntG g (ts.map w1) = (ts.filter (in1 g)).length := filter_map_len w1 (fun w => decide (w ∈ g)) ts
theorem cnt2 (g : List Str) : cntG g (ts.map w2) = (ts.filter (in2 g)).length := filter_map_len w2 (fun w => decide (w ∈ g)) ts
theorem poss1 (g : List Str) : poss (fun w => decide (w ∈ g)) (ts.map w1) (ts.map w1).length = poss (in1 g) ts ts.length := by
  rw [List.length_map]
  exact poss_map w1 (fun w => decide (w ∈ g)) ts ts.length
theorem poss2 (g : List Str) : poss (fun w => decide (w ∈ g)) (ts.map w2) (ts.map w2).length = poss (in2 g) ts ts.length := by
  rw [List.length_map]
  exact poss_map w2 (fun w => decide (w ∈ g)) ts ts.length
theorem prog_holds (k : Str) : wordsB k (ts.map w1) = true ↔ ∀ d ∈ progL k, d.holds ts := by
  unfold wordsB endsB hasB ordB befB
  simp only [cnt1, poss1]
  simp only [List.length_map, Bool.and_eq_true, decide_eq_true_iff, List.all_eq_true, Bool.not_eq_true', Bool.and_eq_false_iff, Bool.not_eq_false', decide_eq_false_iff_not]
  have one1 : ∀ w : Str, ((ts.map w1).filter fun x => decide (x = w)).length = (ts.filter (in1 [w])).length := fun w => by
    have e : (fun x : Str => decide (x = w)) = fun x => decide (x ∈ ([w] : List Str)) := by
      funext x
      rw [Bool.eq_iff_iff, decide_eq_true_iff, decide_eq_true_iff, List.mem_singleton]
    rw [e]
    exact cnt1 [w]
  have mem1 : ∀ w : Str, w ∈ ts.map w1 ↔ ∃ x ∈ ts, in1 [w] x = true := fun w => by
    rw [List.mem_map]
    exact ⟨fun ⟨x, hx, e⟩ => ⟨x, hx, decide_eq_true (List.mem_singleton.mpr e)⟩, fun ⟨x, hx, e⟩ => ⟨x, hx, List.mem_singleton.mp (of_decide_eq_true e)⟩⟩
  simp only [one1, mem1]
  constructor
  · rintro ⟨h1, ⟨h2, h3, h4⟩, h5⟩ d hd
    unfold progL at hd
    simp only [List.mem_append, List.mem_map, List.mem_singleton] at hd
    rcases hd with (((rfl | ⟨g, hg, rfl⟩) | rfl) | ⟨w, hw, rfl⟩) | ⟨p, hp, rfl⟩
    · exact h1
    · exact h2 g hg
    · intro q
      rcases h3 with h3 | h3
      · exact absurd q h3
      · exact h3
    · exact h4 w hw
    · exact h5 p hp
  · intro h
    have g : ∀ d, d ∈ progL k → d.holds ts := h
    refine ⟨g (.a (in1 ["end", "close"])) ?_, ⟨fun x hx => g (.one (in1 x)) ?_, ?_, fun x hx => g (.le (in1 [x])) ?_⟩, fun x hx => g (.ord (in1 x.1) (in1 x.2)) ?_⟩
    · unfold progL; simp
    · unfold progL
      simp only [List.mem_append, List.mem_map, List.mem_singleton]
      exact .inl (.inl (.inl (.inr ⟨x, hx, rfl⟩)))
    · have hi := g (.imp (in1 ["wait"]) (in1 ["switch"])) (by unfold progL; simp)
      by_cases q : ∃ x ∈ ts, in1 ["wait"] x = true
      · exact .inr (hi q)
      · exact .inl q
    · unfold progL
      simp only [List.mem_append, List.mem_map, List.mem_singleton]
      exact .inl (.inr ⟨x, hx, rfl⟩)
    · unfold progL
      simp only [List.mem_append, List.mem_map, List.mem_singleton]
      exact .inr ⟨x, hx, rfl⟩
/-- no item is of both -/
theorem befL_ord {E L : List Str} (no : ∀ w ∈ E, w ∉ L) : befL (ts.map w2) E L = true ↔ (Cd.ord (in2 E) (in2 L)).holds ts := by
  unfold befL
  rw [poss2, poss2, decide_eq_true_iff]
  show _ ↔ ∀ i ∈ poss (in2 E) ts ts.length, ∀ j ∈ poss (in2 L) ts ts.length, i < j
  constructor
  · intro h i hi j hj
    have := h i hi j hj
    rcases Nat.lt_or_eq_of_le this with q | q
    · exact q
    · exfalso
      subst q
      obtain ⟨x, hx, px⟩ := mem_poss.mp hi
      obtain ⟨y, hy, py⟩ := mem_poss.mp hj
      rw [hx] at hy
      cases hy
      exact no _ (of_decide_eq_true px) (of_decide_eq_true py)
  · intro h i hi j hj
    exact Nat.le_of_lt (h i hi j hj)
theorem last_a {p q : T2 → Bool} (he : ∀ x ∈ ts, p x = q x) (h0 : ts ≠ []) : (Cd.a p).holds ts ↔ p (ts.getLast h0) = true ∧ (ts.dropLast.filter q).length = 0 := by
  have hn : 0 < ts.length := List.length_pos_iff.mpr h0
  have last : ts[ts.length - 1]? = some (ts.getLast h0) := by
    rw [List.getLast_eq_getElem]
    exact List.getElem?_eq_getElem (by omega)
  show poss p ts ts.length = [ts.length - 1] ↔ _
  constructor
  · intro h
    constructor
    · have : ts.length - 1 ∈ poss p ts ts.length := by rw [h]; exact List.mem_singleton.mpr rfl
      obtain ⟨x, hx, px⟩ := mem_poss.mp this
      rw [last] at hx
      cases hx
      exact px
    · rw [List.length_eq_zero_iff, List.filter_eq_nil_iff]
      intro x hx qx
      obtain ⟨i, hi, e⟩ := List.getElem_of_mem hx
      have hi2 : i < ts.length - 1 := by rw [List.length_dropLast] at hi; exact hi
      rw [List.getElem_dropLast] at e
      have hm : x ∈ ts := List.dropLast_subset _ hx
      have : i ∈ poss p ts ts.length := mem_poss.mpr ⟨x, by rw [← e]; exact List.getElem?_eq_getElem (by omega), by rw [he x hm]; exact qx⟩
      rw [h] at this
      have := List.mem_singleton.mp this
      omega
  · rintro ⟨h1, h2⟩
    rw [List.length_eq_zero_iff, List.filter_eq_nil_iff] at h2
    have hs : ts.length = (ts.length - 1) + 1 := by omega
    rw [hs, poss_step]
    have e1 : pAt p ts (ts.length - 1) = true := by
      unfold pAt
      rw [last]
      exact h1
    have e2 : poss p ts (ts.length - 1) = [] := by
      unfold poss
      rw [List.filter_eq_nil_iff]
      intro i hi
      have hi := List.mem_range.mp hi
      unfold pAt
      rw [List.getElem?_eq_getElem (by omega)]
      show ¬ p ts[i] = true
      rw [he _ (List.getElem_mem (by omega))]
      refine h2 _ ?_
      rw [← List.getElem_dropLast (by rw [List.length_dropLast]; exact hi)]
      exact List.getElem_mem _
    rw [e1, if_pos rfl, e2]
    rfl
end
theorem scan_steps : ∀ k ∈ kindsL, ∀ s ∈ stepsT k, s.headD "" = "scan" → s = (["scan", "new"] : List Str) ∨ s = (["scan", "rest"] : List Str) := by decide +kernel
theorem step_cases {k : Str} {ss : List Str} (h : stepS k ss = true) : ss ∈ stepsT k ∨ ∃ b c, ss = (["lock", b, c] : List Str) := by
  by_cases e : ss.length = 3
  · match ss, e with
    | [a, b, c], _ =>
      have h' : (decide (a = "lock") && (decide (b ∈ locksT k) && nameS c)) = true := h
      rw [Bool.and_eq_true, decide_eq_true_iff] at h'
      rw [h'.1]
      exact .inr ⟨b, c, rfl⟩
  · match ss, e, h with
    | [], _, h => exact .inl (of_decide_eq_true h)
    | [_], _, h => exact .inl (of_decide_eq_true h)
    | [_, _], _, h => exact .inl (of_decide_eq_true h)
    | [_, _, _], e, _ => exact absurd rfl e
    | _ :: _ :: _ :: _ :: _, _, h => exact .inl (of_decide_eq_true h)
theorem scan_ss {k : Str} (hk : k ∈ kindsL) {ss : List Str} (h : stepS k ss = true) : (ss.headD "" = "scan" ↔ ss.take 2 = (["scan", "new"] : List Str) ∨ ss.take 2 = (["scan", "rest"] : List Str)) ∧ (ss.take 2 = (["scan", "new"] : List Str) → ss = (["scan", "new"] : List Str)) ∧ (ss.take 2 = (["scan", "rest"] : List Str) → ss = (["scan", "rest"] : List Str)) := by
  have ns : ¬ (("lock" : Str) = "scan") := by decide +kernel
  rcases step_cases h with hs | ⟨b, c, rfl⟩
  · have ht : ss.take 2 = ss := by
      rcases steps_len k hk ss hs with ⟨h1, _⟩ | ⟨h1, _⟩
      · exact List.take_of_length_le (by omega)
      · exact List.take_of_length_le (by omega)
    rw [ht]
    refine ⟨⟨scan_steps k hk ss hs, ?_⟩, fun e => e, fun e => e⟩
    rintro (rfl | rfl)
    · rfl
    · rfl
  · refine ⟨⟨fun e => absurd e ns, ?_⟩, fun e => ?_, fun e => ?_⟩
    · rintro (e | e)
      · exact absurd (congrArg (fun l : List Str => l.headD "") e) ns
      · exact absurd (congrArg (fun l : List Str => l.headD "") e) ns
    · exact absurd (congrArg (fun l : List Str => l.headD "") e) ns
    · exact absurd (congrArg (fun l : List Str => l.headD "") e) ns
theorem scans_le {k : Str} (hk : k ∈ kindsL) {sss : List (List Str)} (hv : ∀ ss ∈ sss, stepS k ss = true) : (scansL sss).Nodup ↔ (Cd.le fun t : T2 => decide (t = (["scan", "new"] : List Str))).holds (sss.map fun ss => ss.take 2) ∧ (Cd.le fun t : T2 => decide (t = (["scan", "rest"] : List Str))).holds (sss.map fun ss => ss.take 2) := by
  have cnt : ∀ a : List Str, (a = (["scan", "new"] : List Str) ∨ a = (["scan", "rest"] : List Str)) → ((sss.map fun ss => ss.take 2).filter fun t => decide (t = a)).length = (scansL sss).count a := by
    intro a ha
    rw [filter_map_len, List.count_eq_countP, List.countP_eq_length_filter]
    unfold scansL
    rw [List.filter_filter]
    congr 1
    refine List.filter_congr fun ss hs => ?_
    obtain ⟨h1, h2, h3⟩ := scan_ss hk (hv ss hs)
    rw [Bool.eq_iff_iff, decide_eq_true_iff, Bool.and_eq_true, beq_iff_eq, decide_eq_true_iff]
    rcases ha with rfl | rfl
    · exact ⟨fun e => ⟨h2 e, h1.mpr (.inl e)⟩, fun e => by rw [e.1]; rfl⟩
    · exact ⟨fun e => ⟨h3 e, h1.mpr (.inr e)⟩, fun e => by rw [e.1]; rfl⟩
  show _ ↔ ((sss.map fun ss => ss.take 2).filter fun t => decide (t = (["scan", "new"] : List Str))).length ≤ 1 ∧ ((sss.map fun ss => ss.take 2).filter fun t => decide (t = (["scan", "rest"] : List Str))).length ≤ 1
  rw [cnt _ (.inl rfl), cnt _ (.inr rfl), List.nodup_iff_count]
  constructor
  · exact fun h => ⟨h _, h _⟩
  · rintro ⟨h1, h2⟩ a
    by_cases hm : a ∈ scansL sss
    · obtain ⟨hm1, hm2⟩ := List.mem_filter.mp hm
      obtain ⟨g1, g2, g3⟩ := scan_ss hk (hv a hm1)
      rcases g1.mp (of_decide_eq_true hm2) with e | e
      · rw [g2 e]; exact h1
      · rw [g3 e]; exact h2
    · rw [List.count_eq_zero_of_not_mem hm]
      exact Nat.zero_le _
theorem end_close : ∀ k ∈ firstK, ∀ x ∈ tsT k, in2 ["end"] x = in2 ["end", "close"] x := by decide +kernel
theorem law_holds {k : Str} (hk : k ∈ kindsL) {sss : List (List Str)} (hv : ∀ ss ∈ sss, stepS k ss = true) (h0 : sss ≠ []) : lawE k sss = true ↔ ∀ d ∈ lawL k, d.holds (sss.map fun ss => ss.take 2) := by
  have hA : ∀ x ∈ sss.map (fun ss => ss.take 2), x ∈ tsT k := fun x hx => by
    obtain ⟨ss, hs, rfl⟩ := List.mem_map.mp hx
    exact take_ts hk (hv ss hs)
  have eW : lawW sss = (sss.map fun ss => ss.take 2).map w2 := by
    unfold lawW
    rw [List.map_map]
    rfl
  have sc := scans_le hk hv
  generalize hts : (sss.map fun ss => ss.take 2) = ts at hA eW sc ⊢
  have t0 : ts ≠ [] := by
    rw [← hts]
    simpa using h0
  have eL : (lawW sss).getLastD "" = w2 (ts.getLast t0) := by
    rw [eW, List.getLastD_eq_getLast?, List.getLast?_map, List.getLast?_eq_some_getLast t0]
    rfl
  have eD : cntG ["end", "close"] (lawW sss).dropLast = (ts.dropLast.filter (in2 ["end", "close"])).length := by
    rw [eW, ← List.map_dropLast]
    exact cnt2 _
  have mem2 : ∀ w : Str, w ∈ ts.map w2 ↔ ∃ x ∈ ts, in2 [w] x = true := fun w => by
    rw [List.mem_map]
    exact ⟨fun ⟨x, hx, e⟩ => ⟨x, hx, decide_eq_true (List.mem_singleton.mpr e)⟩, fun ⟨x, hx, e⟩ => ⟨x, hx, List.mem_singleton.mp (of_decide_eq_true e)⟩⟩
  have b1 := befL_ord (ts := ts) (E := ["border", "key", "again", "view"]) (L := deedsL) (by decide +kernel)
  have b2 := befL_ord (ts := ts) (E := ["look"]) (L := partL) (by decide +kernel)
  have b3 := befL_ord (ts := ts) (E := ["move", "scan"]) (L := ["switch", "close"]) (by decide +kernel)
  have b4 := befL_ord (ts := ts) (E := ["switch", "close"]) (L := ["wait"]) (by decide +kernel)
  unfold lawE lawL
  rw [eL, eD, eW]
  simp only [cnt2]
  by_cases hf : k ∈ firstK
  · have la := last_a (ts := ts) (p := in2 ["end"]) (q := in2 ["end", "close"]) (fun x hx => end_close k hf x (hA x hx)) t0
    have l1 : decide (w2 (ts.getLast t0) ∈ (["end"] : List Str)) = in2 ["end"] (ts.getLast t0) := rfl
    rw [if_pos hf, if_pos hf, if_pos hf, l1]
    by_cases hd : k = "direct"
    · rw [if_pos hd, if_pos hd]
      simp only [Bool.and_eq_true, decide_eq_true_iff, b1, List.append_nil, List.forall_mem_cons, List.not_mem_nil, false_imp_iff, implies_true, and_true, la]
      rw [and_assoc]
      rfl
    · rw [if_neg hd, if_neg hd]
      by_cases hr : k = "read"
      · rw [if_pos hr, if_pos hr]
        simp only [Bool.and_eq_true, decide_eq_true_iff, b1, b2, List.cons_append, List.nil_append, List.forall_mem_cons, List.not_mem_nil, false_imp_iff, implies_true, and_true, la]
        rw [and_assoc]
        rfl
      · rw [if_neg hr, if_neg hr]
        simp only [Bool.and_eq_true, decide_eq_true_iff, b1, b2, List.cons_append, List.nil_append, List.forall_mem_cons, List.not_mem_nil, false_imp_iff, implies_true, and_true, true_and, la]
        rw [and_assoc]
        rfl
  · have la := last_a (ts := ts) (p := in2 ["end", "close"]) (q := in2 ["end", "close"]) (fun _ _ => rfl) t0
    have l1 : decide (w2 (ts.getLast t0) ∈ (["end", "close"] : List Str)) = in2 ["end", "close"] (ts.getLast t0) := rfl
    rw [if_neg hf, if_neg hf, if_neg hf, l1]
    have nd : (!(decide (("wait" : Str) ∈ ts.map w2) && decide (("close" : Str) ∈ ts.map w2))) = true ↔ (Cd.nand (in2 ["wait"]) (in2 ["close"])).holds ts := by
      rw [Bool.not_eq_true', Bool.and_eq_false_iff, decide_eq_false_iff_not, decide_eq_false_iff_not, mem2, mem2]
      show _ ↔ ¬ (_ ∧ _)
      rw [Classical.not_and_iff_not_or_not]
    by_cases hm : k ∈ (["split", "join"] : List Str)
    · rw [if_pos hm, if_pos hm]
      simp only [Bool.and_eq_true, decide_eq_true_iff, b3, b4, nd, sc, List.cons_append, List.nil_append, List.forall_mem_cons, List.not_mem_nil, false_imp_iff, implies_true, and_true, la]
      rw [and_assoc]
      rfl
    · rw [if_neg hm, if_neg hm]
      simp only [Bool.and_eq_true, decide_eq_true_iff, b3, b4, nd, sc, List.cons_append, List.nil_append, List.forall_mem_cons, List.not_mem_nil, false_imp_iff, implies_true, and_true, true_and, la]
      rw [and_assoc]
      rfl
theorem words_law {k : Str} (hk : k ∈ kindsL) {sss : List (List Str)} (hv : ∀ ss ∈ sss, stepS k ss = true) (h0 : sss ≠ []) : wordsB k (sss.map fun ss => w1 (ss.take 2)) = lawE k sss := by
  have e : (sss.map fun ss => w1 (ss.take 2)) = (sss.map fun ss => ss.take 2).map w1 := by
    rw [List.map_map]
    rfl
  rw [e, Bool.eq_iff_iff, prog_holds, law_holds hk hv h0]
  refine prog_law hk fun x hx => ?_
  obtain ⟨ss, hs, rfl⟩ := List.mem_map.mp hx
  exact take_ts hk (hv ss hs)
theorem ne1 (n : Nat) : (!decide (V.int (n : Int) = V.int 1)) = !decide (n = 1) := by
  rw [dec_int]
  congr 1
  rw [Bool.eq_iff_iff, beq_iff_eq, decide_eq_true_iff]
  omega
theorem eqv_strsD (a b : List Str) : PyData.eqv (strsD a) (strsD b) = decide (a = b) := by
  rw [Bool.eq_iff_iff, decide_eq_true_iff]
  constructor
  · intro h
    have e : PyData.eqvAll (a.map .str) (b.map .str) = true := by simpa [strsD, PyData.eqv] using h
    have := eqvAll_strs a e
    exact (List.map_inj_right (fun x y q => by injection q) |>.mp this).symm
  · rintro rfl
    simp [strsD, PyData.eqv, eqv_strs_self]
theorem step_ne {k : Str} (hk : k ∈ kindsL) {ss : List Str} (h : stepS k ss = true) : ss ≠ [] := by
  rcases step_cases h with hs | ⟨b, c, rfl⟩
  · rcases steps_len k hk ss hs with ⟨h1, _⟩ | ⟨h1, _⟩
    · exact fun e => by rw [e] at h1; cases h1
    · exact fun e => by rw [e] at h1; cases h1
  · exact fun e => by cases e
theorem cut_last (W : List Str) : cutV (W.map V.str) none (some (-1)) = W.dropLast.map V.str := by
  unfold cutV
  rw [HT.sIx_none, List.drop_zero, Nat.sub_zero, List.dropLast_eq_take, List.map_take]
  congr 1
  unfold HT.sIx
  simp only []
  rw [if_pos (by decide), List.length_map]
  omega
theorem at_last {W : List Str} (h : W ≠ []) : atI (W.map V.str) (-1) = some (.str (W.getLastD "")) := by
  have hn : 0 < W.length := List.length_pos_iff.mpr h
  unfold atI ixN
  rw [if_neg (by decide), List.length_map, if_pos (by omega)]
  show (W.map V.str)[_]? = _
  rw [List.getElem?_map, List.getLastD_eq_getLast?, List.getLast?_eq_getElem?]
  have e : ((-1 : Int) + (W.length : Int)).toNat = W.length - 1 := by omega
  rw [e, List.getElem?_eq_getElem (by omega)]
  rfl
def lastL (k : Str) : List Str := if k ∈ firstK then (["end"] : List Str) else ["end", "close"]
theorem kinds4 (k : Str) : inV (.str k) (cutV (kindsL.map V.str) none (some 4)) = decide (k ∈ firstK) := by
  have e : cutV (kindsL.map V.str) none (some 4) = firstK.map V.str := by rfl
  rw [e, in_strs]
def hdD : PyData → Str
  | .tuple (.str s :: _) => s
  | _ => ""
theorem hdD_strs (ss : List Str) : hdD (strsD ss) = ss.headD "" := by
  cases ss <;> rfl
theorem scans_ds (sss : List (List Str)) : ((sss.map strsD).filter fun d => decide (hdD d = "scan")) = (scansL sss).map strsD := by
  rw [List.filter_map]
  unfold scansL
  congr 2
  funext ss
  show decide (hdD (strsD ss) = "scan") = _
  rw [hdD_strs]
def dupC (S : List (List Str)) (j : Nat) : Bool := match S[j]? with
  | some s => decide (s ∈ S.take j)
  | none => false
theorem nodup_idx (S : List (List Str)) : ((List.range S.length).filter (dupC S)).isEmpty = decide S.Nodup := by
  rw [Bool.eq_iff_iff, List.isEmpty_iff, List.filter_eq_nil_iff, decide_eq_true_iff]
  have key : ∀ j (hj : j < S.length), dupC S j = decide (S[j] ∈ S.take j) := fun j hj => by
    unfold dupC
    rw [List.getElem?_eq_getElem hj]
  constructor
  · intro h
    refine List.pairwise_iff_getElem.mpr fun i j hi hj hij e => ?_
    have := h j (List.mem_range.mpr hj)
    rw [key j hj, decide_eq_true_iff] at this
    refine this ?_
    rw [← e]
    have e2 : S[i] = (S.take j)[i]'(by rw [List.length_take]; omega) := by rw [List.getElem_take]
    rw [e2]
    exact List.getElem_mem _
  · intro h j hj
    have hj := List.mem_range.mp hj
    rw [key j hj, decide_eq_true_iff]
    intro hm
    obtain ⟨i, hi, e⟩ := List.getElem_of_mem hm
    rw [List.length_take] at hi
    rw [List.getElem_take] at e
    exact List.pairwise_iff_getElem.mp h i j (by omega) hj (by omega) e
theorem range_filter_step (c : Nat → Bool) (i : Nat) : (List.range (i + 1)).filter c = if c i = true then (List.range i).filter c ++ [i] else (List.range i).filter c := by
  rw [List.range_succ, List.filter_append]
  cases h : c i with
  | true => simp [h]
  | false => simp [h]
theorem dpAll_take {K : PySem.W.Frag} {H : Hp} : ∀ {xs : List V} {ds : List PyData} (n : Nat), DpAll K H xs ds → DpAll K H (xs.take n) (ds.take n)
  | _, _, 0, _ => .nil
  | _, _, _ + 1, .nil => .nil
  | _, _, n + 1, .cons a b => .cons a (dpAll_take n b)
theorem cut_takeV (ys : List V) {i : Nat} (h : i ≤ ys.length) : cutV ys none (some (i : Int)) = ys.take i := by
  unfold cutV
  rw [HT.sIx_none, HT.sIx_nat, List.drop_zero, Nat.sub_zero, Nat.min_eq_left h]
/-! ### programs drawn -/
def PL (K : PySem.W.Frag) (H : Hp) (l : Addr) (sss : List (List Str)) : Prop := ∃ xs, H l = some (.lst xs) ∧ DpAll K H xs (sss.map strsD)
theorem PL.mono {K : PySem.W.Frag} {H H' : Hp} {l : Addr} {sss : List (List Str)} (h : PL K H l sss) (s : Same H H') : PL K H' l sss := by
  obtain ⟨xs, h1, h2⟩ := h
  exact ⟨xs, s _ _ h1, dpAll_mono s h2⟩
theorem dpAll_app {K : PySem.W.Frag} {H : Hp} : ∀ {xs ys : List V} {ds es : List PyData}, DpAll K H xs ds → DpAll K H ys es → DpAll K H (xs ++ ys) (ds ++ es)
  | _, _, _, _, .nil, h => h
  | _, _, _, _, .cons a b, h => .cons a (dpAll_app b h)
theorem dpAll_drop {K : PySem.W.Frag} {H : Hp} : ∀ {xs : List V} {ds : List PyData} (n : Nat), DpAll K H xs ds → DpAll K H (xs.drop n) (ds.drop n)
  | _, _, 0, h => h
  | _, _, _ + 1, .nil => .nil
  | _, _, n + 1, .cons _ b => dpAll_drop n b
theorem dp_tup1 {K : PySem.W.Frag} {H : Hp} {t : Addr} {ss : List Str} (h : H t = some (.tup (ss.map V.str))) : Dp K H (.ref t) (strsD ss) := .tup (SqT.of h) (dpAll_strs ss)
def goodS (ss : List Str) : Prop := ss.length ≤ 3 ∧ ∀ s ∈ ss, sOk 16 s
theorem good_vd {K : PySem.W.Frag} {H : Hp} {v : V} {ss : List Str} (g : goodS ss) (h : Dp K H v (strsD ss)) : VD K H v (some (strsD ss)) ∧ shortO (some (strsD ss)) := by
  refine ⟨.dat h (strsD_shaped fun s hs => shaped_iff.mpr ⟨?_, by simp [PyData.depth]⟩) (fun s e => nomatch e), fun ds e => ?_⟩
  · simp only [PyData.canLay0]
    exact (g.2 s hs).2
  · injection e with e
    injection e with e
    rw [← e]
    refine ⟨by rw [List.length_map]; have := g.1; omega, fun s hs => ?_⟩
    obtain ⟨t, ht, q⟩ := List.mem_map.mp hs
    injection q with q
    rw [← q]
    exact Nat.le_trans (g.2 t ht).1 (by decide)
theorem good_list {K : PySem.W.Frag} {H : Hp} {l : Addr} {sss : List (List Str)} (g : ∀ ss ∈ sss, goodS ss) (hl : sss.length ≤ 100) (h : PL K H l sss) : VD K H (.ref l) (some (.list (sss.map strsD))) ∧ progOk (some (.list (sss.map strsD))) := by
  obtain ⟨xs, h1, h2⟩ := h
  have sh : ∀ ss, goodS ss → (strsD ss).canLay0 = true ∧ (strsD ss).depth ≤ 1 := fun ss g => by
    refine ⟨(shaped_iff.mp (strsD_shaped fun s hs => shaped_iff.mpr ⟨by simp only [PyData.canLay0]; exact (g.2 s hs).2, by simp [PyData.depth]⟩)).1, ?_⟩
    have : PyData.depthAll (ss.map .str) ≤ 0 := depthAll_le fun d hd => by
      obtain ⟨s, hs, rfl⟩ := List.mem_map.mp hd
      simp [PyData.depth]
    simp only [strsD, PyData.depth]
    omega
  refine ⟨.dat (.lst (SqL.of h1) h2) (shaped_list (n := 1) (by decide) fun d hd => ?_) (fun s e => nomatch e), fun ds e => ?_⟩
  · obtain ⟨ss, hs, rfl⟩ := List.mem_map.mp hd
    exact sh ss (g ss hs)
  · injection e with e
    injection e with e
    rw [← e]
    refine ⟨by rw [List.length_map]; exact hl, fun d hd => ?_⟩
    obtain ⟨ss, hs, rfl⟩ := List.mem_map.mp hd
    exact ⟨fun ds2 e2 => by
      injection e2 with e2
      injection e2 with e2
      rw [← e2]
      refine ⟨by rw [List.length_map]; have := (g ss hs).1; omega, fun s hs2 => ?_⟩
      obtain ⟨t, ht, q⟩ := List.mem_map.mp hs2
      injection q with q
      rw [← q]
      exact Nat.le_trans ((g ss hs).2 t ht).1 (by decide), fun s e => nomatch e⟩
def progS (k : Str) (sss : List (List Str)) : Bool := progD k (sss.map strsD)
theorem progS_len {k : Str} {sss : List (List Str)} (h : progS k sss = true) : 1 ≤ sss.length ∧ sss.length ≤ 12 := by
  unfold progS progD at h
  rw [Bool.and_eq_true, decide_eq_true_iff, List.length_map] at h
  exact h.1
def goodB (sss : List (List Str)) : Bool := sss.all fun ss => decide (ss.length ≤ 3) && ss.all fun s => decide (s.length ≤ 16) && PyData.strOk s
theorem goodB_ok {sss : List (List Str)} (h : goodB sss = true) : ∀ ss ∈ sss, goodS ss := fun ss hs => by
  have := List.all_eq_true.mp h ss hs
  rw [Bool.and_eq_true, decide_eq_true_iff] at this
  refine ⟨this.1, fun s hs => ?_⟩
  have := List.all_eq_true.mp this.2 s hs
  rw [Bool.and_eq_true, decide_eq_true_iff] at this
  exact this
def sp_base (K : PySem.W.Frag) : Sp := fun vs H Q _ => ∃ (H0 : Hp) (p : Addr) (n : Nat) (k : Str), vs = [.ref p, .str k] ∧ k ∈ kindsL ∧ BoxIn H0 H p n ∧ n + 5 < 1000000 ∧
  ∀ (H1 H' : Hp) (l : Addr) (sss : List (List Str)), Same H0 H1 → BoxIn H1 H' p (n + 5) → PL K H1 l sss → progS k sss = true → (∀ ss ∈ sss, goodS ss) → Q (.ref l) H'
def sp_program (K : PySem.W.Frag) : Sp := fun vs H Q _ => ∃ (H0 : Hp) (p m : Addr) (n : Nat) (k : Str) (ms : List Str), vs = [.ref p, .str k, .ref m] ∧ k ∈ kindsL ∧ BoxIn H0 H p n ∧ H0 m = some (.lst (ms.map V.str)) ∧ 0 < ms.length ∧ ms.length ≤ 100 ∧ (∀ s ∈ ms, sOk 16 s) ∧ n + 200 < 1000000 ∧
  ∀ (H1 H' : Hp) (l : Addr) (sss : List (List Str)), Same H0 H1 → BoxIn H1 H' p (n + 200) → PL K H1 l sss → progS k sss = true → (∀ ss ∈ sss, goodS ss) → Q (.ref l) H'
def lastsL : List (List (List Str)) := [[["close"]], [["switch"], ["end"]], [["switch"], ["wait"], ["end"]]]
theorem base_put : ∀ d ∈ ([["claim"], ["put"]] : List (List Str)), progS "put" [["look"], d, ["end"]] = true ∧ goodB [["look"], d, ["end"]] = true ∧ progS "direct" [d, ["end"]] = true ∧ goodB [d, ["end"]] = true := by decide +kernel
theorem base_strike : progS "strike" [["look"], ["strike"], ["end"]] = true ∧ goodB [["look"], ["strike"], ["end"]] = true := by decide +kernel
theorem base_read : ∀ a ∈ ([[["look"], ["view"]], [["view"], ["look"]]] : List (List (List Str))), progS "read" (a ++ ([["read"], ["end"]] : List (List Str))) = true ∧ goodB (a ++ ([["read"], ["end"]] : List (List Str))) = true := by decide +kernel
theorem base_change : ∀ a ∈ lastsL, (∀ k ∈ (["hang", "take"] : List Str), progS k a = true) ∧ (∀ k ∈ (["split", "join"] : List Str), progS k (([["move"]] : List (List Str)) ++ a) = true) ∧ goodB a = true ∧ goodB (([["move"]] : List (List Str)) ++ a) = true := by decide +kernel
theorem cut_dropV (ys : List V) {i : Nat} (h : i ≤ ys.length) : cutV ys (some (i : Int)) none = ys.drop i := by
  unfold cutV
  rw [HT.sIx_none, HT.sIx_nat, Nat.min_eq_left h]
  exact List.take_of_length_le (by rw [List.length_drop]; exact Nat.le_refl _)
/-- a datum of three deep at most, its texts short -/
def GV (K : PySem.W.Frag) (H : Hp) (v : V) : Prop := ∃ d, Dp K H v d ∧ d.canLay0 = true ∧ d.depth ≤ 3 ∧ (∀ s, d = .str s → s.length ≤ 1000) ∧ shortO (some d)
theorem GV.mono {K : PySem.W.Frag} {H H' : Hp} {v : V} (h : GV K H v) (s : Same H H') : GV K H' v := by
  obtain ⟨d, h1, h2⟩ := h
  exact ⟨d, dp_mono s h1, h2⟩
theorem gv_none (K : PySem.W.Frag) (H : Hp) : GV K H .non := ⟨.none, .non, by decide +kernel, by decide +kernel, (fun _ e => nomatch e), fun ds e => by cases e⟩
theorem gv_int (K : PySem.W.Frag) (H : Hp) (i : Int) : GV K H (.int i) := ⟨.int i, .int i, rfl, by simp [PyData.depth], (fun _ e => nomatch e), fun ds e => by cases e⟩
theorem gv_str (K : PySem.W.Frag) (H : Hp) {s : Str} (h : sOk 16 s) : GV K H (.str s) := ⟨.str s, .str s, by simp only [PyData.canLay0]; exact h.2, by simp [PyData.depth], (fun t e => by injection e with e; rw [← e]; exact Nat.le_trans h.1 (by decide)), fun ds e => by cases e⟩
theorem good_sh {ss : List Str} (g : goodS ss) : (strsD ss).canLay0 = true ∧ (strsD ss).depth ≤ 1 := by
  refine ⟨(shaped_iff.mp (strsD_shaped fun s hs => shaped_iff.mpr ⟨by simp only [PyData.canLay0]; exact (g.2 s hs).2, by simp [PyData.depth]⟩)).1, ?_⟩
  have : PyData.depthAll (ss.map .str) ≤ 0 := depthAll_le fun d hd => by
    obtain ⟨s, hs, rfl⟩ := List.mem_map.mp hd
    simp [PyData.depth]
  simp only [strsD, PyData.depth]
  omega
theorem gv_tup {K : PySem.W.Frag} {H : Hp} {v : V} {ss : List Str} (g : goodS ss) (h : Dp K H v (strsD ss)) : GV K H v :=
  ⟨strsD ss, h, (good_sh g).1, Nat.le_trans (good_sh g).2 (by decide), (fun _ e => nomatch e), (good_vd g h).2⟩
/-- the items of a list of such values -/
theorem gv_all {K : PySem.W.Frag} {H : Hp} {xs : List V} (g : ∀ x ∈ xs, GV K H x) : ∃ ds, DpAll K H xs ds ∧ ds.length = xs.length ∧ (∀ d ∈ ds, d.canLay0 = true ∧ d.depth ≤ 3) ∧ ∀ d ∈ ds, shortO (some d) ∧ ∀ s, d = .str s → s.length ≤ 1000 := by
  induction xs with
  | nil => exact ⟨[], .nil, rfl, (fun d h => by cases h), fun d h => by cases h⟩
  | cons y r ih =>
    obtain ⟨ds, i1, i2, i3, i4⟩ := ih fun x hx => g x (List.mem_cons_of_mem _ hx)
    obtain ⟨d, a, b, c, e, f⟩ := g y List.mem_cons_self
    refine ⟨d :: ds, .cons a i1, by simp [i2], fun x hx => ?_, fun x hx => ?_⟩
    · rcases List.mem_cons.mp hx with rfl | q
      · exact ⟨b, c⟩
      · exact i3 x q
    · rcases List.mem_cons.mp hx with rfl | q
      · exact ⟨f, e⟩
      · exact i4 x q
theorem gv_list {K : PySem.W.Frag} {H : Hp} {l : Addr} {xs : List V} (hl : xs.length ≤ 100) (g : ∀ x ∈ xs, GV K H x) (h : H l = some (.lst xs)) : ∃ o, VD K H (.ref l) o ∧ progOk o := by
  obtain ⟨ds, i1, i2, i3, i4⟩ := gv_all g
  refine ⟨some (.list ds), .dat (.lst (SqL.of h) i1) (shaped_list (n := 3) (by decide) i3) (fun s e => nomatch e), fun es e => ?_⟩
  injection e with e
  injection e with e
  rw [← e]
  exact ⟨by omega, i4⟩
theorem pl_gv {K : PySem.W.Frag} {H : Hp} : ∀ {xs : List V} {sss : List (List Str)}, DpAll K H xs (sss.map strsD) → (∀ ss ∈ sss, goodS ss) → ∀ x ∈ xs, GV K H x
  | _, [], .nil, _ => fun x h => by cases h
  | _, ss :: r, .cons a b, g => fun x h => by
    rcases List.mem_cons.mp h with rfl | q
    · exact gv_tup (g ss List.mem_cons_self) a
    · exact pl_gv b (fun s hs => g s (List.mem_cons_of_mem _ hs)) x q
def sp_bent22 (K : PySem.W.Frag) : Sp := fun vs H Q _ => ∃ (H0 : Hp) (p l m : Addr) (n : Nat) (xs : List V) (ms : List Str), vs = [.ref p, .ref l, .ref m] ∧ BoxIn H0 H p n ∧ H0 l = some (.lst xs) ∧ 0 < xs.length ∧ xs.length ≤ 40 ∧ (∀ x ∈ xs, GV K H0 x) ∧ H0 m = some (.lst (ms.map V.str)) ∧ 0 < ms.length ∧ ms.length ≤ 100 ∧ (∀ s ∈ ms, sOk 16 s) ∧ n + 30 < 1000000 ∧
  ∀ (H1 H' : Hp) (l' : Addr) (xs' : List V), Same H0 H1 → BoxIn H1 H' p (n + 30) → H1 l' = some (.lst xs') → xs'.length ≤ xs.length + 9 → (∀ x ∈ xs', GV K H1 x) → Q (.ref l') H'
/-- values that are no programs -/
def OddP (K : PySem.W.Frag) (H : Hp) (v : V) : Prop := ∃ o, VD K H v o ∧ progOk o ∧ ∀ k ∈ kindsL, progO k o = false
def sp_told22 (K : PySem.W.Frag) : Sp := fun vs H Q _ => ∃ (x : V) (o : Option PyData), vs = [x, .str ""] ∧ VD K H x o ∧ progOk o ∧ Told1 H Q "kind" (.str "")
theorem less_ok {G G1 H' : Hp} {p l : Addr} {n : Nat} (s : Same G G1) (b : BoxIn G1 H' p n) (h : G l = none) : Same G (but G1 l) ∧ BoxIn (but G1 l) H' p n := by
  refine ⟨fun x u e => ?_, ⟨fun x u e => ?_, ?_, b.box⟩⟩
  · rw [but_ne (ne_of_none e h)]
    exact s _ _ e
  · by_cases hx : x = l
    · rw [hx, but_same] at e
      cases e
    · rw [but_ne hx] at e
      exact b.same _ _ e
  · by_cases hx : p = l
    · rw [hx, but_same]
    · rw [but_ne hx]
      exact b.free
theorem gv_tup0 {K : PySem.W.Frag} {H : Hp} {t : Addr} {ss : List Str} (h3 : ss.length ≤ 3) (h : ∀ s ∈ ss, sOk 16 s) (ht : H t = some (.tup (ss.map V.str))) : GV K H (.ref t) := gv_tup ⟨h3, h⟩ (dp_tup1 ht)
theorem gv_lst1 {K : PySem.W.Frag} {H : Hp} {l t : Addr} (hl : H l = some (.lst [.ref t])) (ht : H t = some (.tup ((["end"] : List Str).map V.str))) : GV K H (.ref l) := by
  refine ⟨.list [strsD ["end"]], .lst (SqL.of hl) (.cons (dp_tup1 ht) .nil), by decide +kernel, by decide +kernel, (fun _ e => nomatch e), fun ds e => by cases e⟩
theorem ixN_nat {n : Nat} {z : Int} (h0 : 0 ≤ z) (h1 : z < n) : ixN n z = some z.toNat := by
  unfold ixN
  rw [if_pos h0, if_pos (by omega)]
theorem mem_rep {α : Type} {x : α} {ys : List α} {n : Nat} (h : x ∈ (List.replicate n ys).flatten) : x ∈ ys := by
  obtain ⟨l, hl, hx⟩ := List.mem_flatten.mp h
  rw [(List.mem_replicate.mp hl).2] at hx
  exact hx
theorem len_rep {α : Type} {ys : List α} {n : Nat} : (List.replicate n ys).flatten.length = n * ys.length := by
  induction n with
  | zero => simp
  | succ n ih => rw [List.replicate_succ, List.flatten_cons, List.length_append, ih, Nat.succ_mul, Nat.add_comm]
theorem odd_none (K : PySem.W.Frag) (H : Hp) : OddP K H .non := ⟨some .none, .dat .non (by decide +kernel) (fun _ e => nomatch e), (fun ds e => by cases e), fun k _ => rfl⟩
theorem odd_int (K : PySem.W.Frag) (H : Hp) : OddP K H (.int 5) := ⟨some (.int 5), .dat (.int 5) (by decide +kernel) (fun _ e => nomatch e), (fun ds e => by cases e), fun k _ => rfl⟩
theorem odd_look (K : PySem.W.Frag) (H : Hp) : OddP K H (.str "look") := ⟨some (.str "look"), .dat (.str _) (by decide +kernel) (fun s e => by cases e; decide +kernel), (fun ds e => by cases e), fun k _ => rfl⟩
theorem odd_tup {K : PySem.W.Frag} {H : Hp} {t : Addr} {xs : List V} (g : ∀ x ∈ xs, GV K H x) (h : H t = some (.tup xs)) : OddP K H (.ref t) := by
  obtain ⟨ds, i1, i2, i3, i4⟩ := gv_all g
  refine ⟨some (.tuple ds), .dat (.tup (SqT.of h) i1) (shaped_iff.mpr ⟨?_, ?_⟩) (fun _ e => nomatch e), (fun ds e => by cases e), fun k _ => rfl⟩
  · simp only [PyData.canLay0]
    exact canAll_mem.mpr fun d hd => (i3 d hd).1
  · have := depthAll_le fun d hd => (i3 d hd).2
    simp only [PyData.depth]
    omega
theorem odd_dic {K : PySem.W.Frag} {H : Hp} {t : Addr} (h : H t = some (.dK [])) : OddP K H (.ref t) := ⟨none, .dic h, (fun ds e => by cases e), fun k _ => rfl⟩
theorem odd_lst0 {K : PySem.W.Frag} {H : Hp} {t : Addr} (h : H t = some (.lst [])) : OddP K H (.ref t) := by
  refine ⟨some (.list []), .dat (.lst (SqL.of h) .nil) shaped_nil (fun _ e => nomatch e), fun ds e => ?_, fun k _ => by simp [progO, progD]⟩
  injection e with e
  injection e with e
  rw [← e]
  exact ⟨by decide, fun d h => by cases h⟩
theorem odd_lst1 {K : PySem.W.Frag} {H : Hp} {t : Addr} (h : H t = some (.lst [.non])) : OddP K H (.ref t) := by
  have all : ∀ k ∈ kindsL, progO k (some (.list [.none])) = false := by decide +kernel
  refine ⟨some (.list [.none]), .dat (.lst (SqL.of h) (.cons .non .nil)) (by decide +kernel) (fun _ e => nomatch e), fun ds e => ?_, all⟩
  injection e with e
  injection e with e
  rw [← e]
  refine ⟨by decide, fun d h => ?_⟩
  rw [List.mem_singleton.mp h]
  exact ⟨(fun ds e => by cases e), fun s e => by cases e⟩
theorem kindNo {s : Str} (hk : s ∈ kindsL) {A : Prop} (e : kindD (.str s) = false) : A := by
  rw [kindD_str, decide_eq_true hk] at e
  cases e
theorem kindSh : ∀ s ∈ kindsL, SeqAt.shaped (.str s) = true := by decide +kernel
def tb_KINDS : PyData := (.tuple [(.str "put"), (.str "strike"), (.str "read"), (.str "direct"), (.str "hang"), (.str "take"), (.str "split"), (.str "join")])
def tb_LOCKS : List (Str × PyData) := [("put", (.tuple [(.str "table"), (.str "part")])), ("strike", (.tuple [(.str "table"), (.str "part")])), ("read", (.tuple [(.str "table"), (.str "part")])), ("direct", (.tuple [(.str "part")])), ("hang", (.tuple [(.str "table"), (.str "new"), (.str "rest")])), ("take", (.tuple [(.str "table"), (.str "old"), (.str "rest")])), ("split", (.tuple [(.str "table"), (.str "old"), (.str "new"), (.str "rest")])), ("join", (.tuple [(.str "table"), (.str "old"), (.str "new"), (.str "rest")]))]
def tb_STEPS : List (Str × PyData) := [("put", (.tuple [(.tuple [(.str "look")]), (.tuple [(.str "again")]), (.tuple [(.str "key")]), (.tuple [(.str "put")]), (.tuple [(.str "claim")]), (.tuple [(.str "end")])])), ("strike", (.tuple [(.tuple [(.str "look")]), (.tuple [(.str "again")]), (.tuple [(.str "strike")]), (.tuple [(.str "end")])])), ("read", (.tuple [(.tuple [(.str "look")]), (.tuple [(.str "again")]), (.tuple [(.str "view")]), (.tuple [(.str "read")]), (.tuple [(.str "end")])])), ("direct", (.tuple [(.tuple [(.str "border")]), (.tuple [(.str "key")]), (.tuple [(.str "put")]), (.tuple [(.str "claim")]), (.tuple [(.str "end")])])), ("hang", (.tuple [(.tuple [(.str "scan"), (.str "new")]), (.tuple [(.str "scan"), (.str "rest")]), (.tuple [(.str "switch")]), (.tuple [(.str "wait")]), (.tuple [(.str "close")]), (.tuple [(.str "end")])])), ("take", (.tuple [(.tuple [(.str "switch")]), (.tuple [(.str "wait")]), (.tuple [(.str "close")]), (.tuple [(.str "end")])])), ("split", (.tuple [(.tuple [(.str "move")]), (.tuple [(.str "switch")]), (.tuple [(.str "wait")]), (.tuple [(.str "close")]), (.tuple [(.str "end")])])), ("join", (.tuple [(.tuple [(.str "move")]), (.tuple [(.str "switch")]), (.tuple [(.str "wait")]), (.tuple [(.str "close")]), (.tuple [(.str "end")])]))]
def tb_NEEDED : List (Str × PyData) := [("put", (.tuple [(.tuple [(.str "look")]), (.tuple [(.str "put"), (.str "claim")])])), ("strike", (.tuple [(.tuple [(.str "look")]), (.tuple [(.str "strike")])])), ("read", (.tuple [(.tuple [(.str "look")]), (.tuple [(.str "view")]), (.tuple [(.str "read")])])), ("direct", (.tuple [(.tuple [(.str "put"), (.str "claim")])])), ("hang", (.tuple [(.tuple [(.str "switch"), (.str "close")])])), ("take", (.tuple [(.tuple [(.str "switch"), (.str "close")])])), ("split", (.tuple [(.tuple [(.str "switch"), (.str "close")]), (.tuple [(.str "move")])])), ("join", (.tuple [(.tuple [(.str "switch"), (.str "close")]), (.tuple [(.str "move")])]))]
def tb_AT_MOST_ONCE : PyData := (.tuple [(.str "border"), (.str "key"), (.str "scan new"), (.str "scan rest")])
def tb_ORDERS : PyData := (.tuple [(.tuple [(.tuple [(.str "look")]), (.tuple [(.str "lock part"), (.str "again"), (.str "key"), (.str "put"), (.str "claim"), (.str "strike"), (.str "read")])]), (.tuple [(.tuple [(.str "view")]), (.tuple [(.str "read")])]), (.tuple [(.tuple [(.str "border"), (.str "key"), (.str "again")]), (.tuple [(.str "put"), (.str "claim"), (.str "strike"), (.str "read")])]), (.tuple [(.tuple [(.str "move"), (.str "scan new"), (.str "scan rest")]), (.tuple [(.str "switch"), (.str "close")])]), (.tuple [(.tuple [(.str "switch")]), (.tuple [(.str "wait")])])])
/-- what the top has written -/
structure Txt (K : PySem.W.Frag) (mg : Str → Option Value) (w : World) where
  f_NoProgram_init : Addr
  fd_NoProgram_init : FuncData
  F_NoProgram_init : Fun K "__init__" "NoProgram.__init__" s_NoProgram_init f_NoProgram_init fd_NoProgram_init
  b_NoProgram_init : Binds K fd_NoProgram_init ["self", "kind"] []
  f_is_name : Addr
  fd_is_name : FuncData
  F_is_name : Fun K "is_name" "is_name" s_is_name f_is_name fd_is_name
  b_is_name : Binds K fd_is_name ["value"] []
  m_is_name : mg "is_name" = some (.ref f_is_name)
  f_is_kind : Addr
  fd_is_kind : FuncData
  F_is_kind : Fun K "is_kind" "is_kind" s_is_kind f_is_kind fd_is_kind
  b_is_kind : Binds K fd_is_kind ["value"] []
  m_is_kind : mg "is_kind" = some (.ref f_is_kind)
  f_require_kind : Addr
  fd_require_kind : FuncData
  F_require_kind : Fun K "require_kind" "require_kind" s_require_kind f_require_kind fd_require_kind
  b_require_kind : Binds K fd_require_kind ["value"] []
  m_require_kind : mg "require_kind" = some (.ref f_require_kind)
  f_is_step : Addr
  fd_is_step : FuncData
  F_is_step : Fun K "is_step" "is_step" s_is_step f_is_step fd_is_step
  b_is_step : Binds K fd_is_step ["value", "kind"] []
  m_is_step : mg "is_step" = some (.ref f_is_step)
  f_is_program : Addr
  fd_is_program : FuncData
  F_is_program : Fun K "is_program" "is_program" s_is_program f_is_program fd_is_program
  b_is_program : Binds K fd_is_program ["value", "kind"] []
  m_is_program : mg "is_program" = some (.ref f_is_program)
  f_ends_well : Addr
  fd_ends_well : FuncData
  F_ends_well : Fun K "ends_well" "ends_well" s_ends_well f_ends_well fd_ends_well
  b_ends_well : Binds K fd_ends_well ["words"] []
  m_ends_well : mg "ends_well" = some (.ref f_ends_well)
  f_has_needed : Addr
  fd_has_needed : FuncData
  F_has_needed : Fun K "has_needed" "has_needed" s_has_needed f_has_needed fd_has_needed
  b_has_needed : Binds K fd_has_needed ["words", "kind"] []
  m_has_needed : mg "has_needed" = some (.ref f_has_needed)
  f_is_in_order : Addr
  fd_is_in_order : FuncData
  F_is_in_order : Fun K "is_in_order" "is_in_order" s_is_in_order f_is_in_order fd_is_in_order
  b_is_in_order : Binds K fd_is_in_order ["words"] []
  m_is_in_order : mg "is_in_order" = some (.ref f_is_in_order)
  f_comes_before : Addr
  fd_comes_before : FuncData
  F_comes_before : Fun K "comes_before" "comes_before" s_comes_before f_comes_before fd_comes_before
  b_comes_before : Binds K fd_comes_before ["words", "earlier", "later"] []
  m_comes_before : mg "comes_before" = some (.ref f_comes_before)
  f_step_text : Addr
  fd_step_text : FuncData
  F_step_text : Fun K "step_text" "step_text" s_step_text f_step_text fd_step_text
  b_step_text : Binds K fd_step_text ["step"] []
  m_step_text : mg "step_text" = some (.ref f_step_text)
  f_law_cell : Addr
  fd_law_cell : FuncData
  F_law_cell : Fun K "_law_cell" "_law_cell" s_law_cell f_law_cell fd_law_cell
  b_law_cell : Binds K fd_law_cell ["_law_script", "_law_k"] []
  m_law_cell : mg "_law_cell" = some (.ref f_law_cell)
  f_law_box : Addr
  fd_law_box : FuncData
  F_law_box : Fun K "_law_box" "_law_box" s_law_box f_law_box fd_law_box
  b_law_box : Binds K fd_law_box ["_law_cell_here"] []
  m_law_box : mg "_law_box" = some (.ref f_law_box)
  f_law_take : Addr
  fd_law_take : FuncData
  F_law_take : Fun K "_law_take" "_law_take" s_law_take f_law_take fd_law_take
  b_law_take : Binds K fd_law_take ["_law_box_here", "_law_many"] []
  m_law_take : mg "_law_take" = some (.ref f_law_take)
  f_law_mixed : Addr
  fd_law_mixed : FuncData
  F_law_mixed : Fun K "_law_mixed" "_law_mixed" s_law_mixed f_law_mixed fd_law_mixed
  b_law_mixed : Binds K fd_law_mixed ["_law_box_here", "_law_some"] []
  m_law_mixed : mg "_law_mixed" = some (.ref f_law_mixed)
  f_law_names : Addr
  fd_law_names : FuncData
  F_law_names : Fun K "_law_names" "_law_names" s_law_names f_law_names fd_law_names
  b_law_names : Binds K fd_law_names ["_law_box_here", "_law_many"] []
  m_law_names : mg "_law_names" = some (.ref f_law_names)
  f_law_kinds : Addr
  fd_law_kinds : FuncData
  F_law_kinds : Fun K "_law_kinds" "_law_kinds" s_law_kinds f_law_kinds fd_law_kinds
  b_law_kinds : Binds K fd_law_kinds [] []
  m_law_kinds : mg "_law_kinds" = some (.ref f_law_kinds)
  f_law_is_name : Addr
  fd_law_is_name : FuncData
  F_law_is_name : Fun K "_law_is_name" "_law_is_name" s_law_is_name f_law_is_name fd_law_is_name
  b_law_is_name : Binds K fd_law_is_name ["_law_value"] []
  m_law_is_name : mg "_law_is_name" = some (.ref f_law_is_name)
  f_law_is_step : Addr
  fd_law_is_step : FuncData
  F_law_is_step : Fun K "_law_is_step" "_law_is_step" s_law_is_step f_law_is_step fd_law_is_step
  b_law_is_step : Binds K fd_law_is_step ["_law_value", "_law_kind"] []
  m_law_is_step : mg "_law_is_step" = some (.ref f_law_is_step)
  f_law_count : Addr
  fd_law_count : FuncData
  F_law_count : Fun K "_law_count" "_law_count" s_law_count f_law_count fd_law_count
  b_law_count : Binds K fd_law_count ["_law_words", "_law_some"] []
  m_law_count : mg "_law_count" = some (.ref f_law_count)
  f_law_order : Addr
  fd_law_order : FuncData
  F_law_order : Fun K "_law_order" "_law_order" s_law_order f_law_order fd_law_order
  b_law_order : Binds K fd_law_order ["_law_words", "_law_first", "_law_later"] []
  m_law_order : mg "_law_order" = some (.ref f_law_order)
  f_law_is_program : Addr
  fd_law_is_program : FuncData
  F_law_is_program : Fun K "_law_is_program" "_law_is_program" s_law_is_program f_law_is_program fd_law_is_program
  b_law_is_program : Binds K fd_law_is_program ["_law_value", "_law_kind"] []
  m_law_is_program : mg "_law_is_program" = some (.ref f_law_is_program)
  f_law_drawn_step : Addr
  fd_law_drawn_step : FuncData
  F_law_drawn_step : Fun K "_law_drawn_step" "_law_drawn_step" s_law_drawn_step f_law_drawn_step fd_law_drawn_step
  b_law_drawn_step : Binds K fd_law_drawn_step ["_law_box_here", "_law_modes"] []
  m_law_drawn_step : mg "_law_drawn_step" = some (.ref f_law_drawn_step)
  f_law_base : Addr
  fd_law_base : FuncData
  F_law_base : Fun K "_law_base" "_law_base" s_law_base f_law_base fd_law_base
  b_law_base : Binds K fd_law_base ["_law_box_here", "_law_kind"] []
  m_law_base : mg "_law_base" = some (.ref f_law_base)
  f_law_program : Addr
  fd_law_program : FuncData
  F_law_program : Fun K "_law_program" "_law_program" s_law_program f_law_program fd_law_program
  b_law_program : Binds K fd_law_program ["_law_box_here", "_law_kind", "_law_modes"] []
  m_law_program : mg "_law_program" = some (.ref f_law_program)
  f_law_bent : Addr
  fd_law_bent : FuncData
  F_law_bent : Fun K "_law_bent" "_law_bent" s_law_bent f_law_bent fd_law_bent
  b_law_bent : Binds K fd_law_bent ["_law_box_here", "_law_program_here", "_law_modes"] []
  m_law_bent : mg "_law_bent" = some (.ref f_law_bent)
  f_law_told : Addr
  fd_law_told : FuncData
  F_law_told : Fun K "_law_told" "_law_told" s_law_told f_law_told fd_law_told
  b_law_told : Binds K fd_law_told ["_law_value", "_law_kind"] []
  m_law_told : mg "_law_told" = some (.ref f_law_told)
  f_law : Addr
  fd_law : FuncData
  F_law : Fun K "law" "law" s_law f_law fd_law
  b_law : Binds K fd_law ["_law_script"] []
  m_law : mg "law" = some (.ref f_law)
  C_PartsError : Addr
  g_PartsError : mg "PartsError" = some (.ref C_PartsError)
  C_NoProgram : Addr
  g_NoProgram : mg "NoProgram" = some (.ref C_NoProgram)
  x_NoProgram : OexC K C_NoProgram
  y_NoProgram : XfC K C_NoProgram
  n_NoProgram : PySem.W.findIn K (.ref C_NoProgram) "kind" = some none
  i_NoProgram : PySem.W.findIn K (.ref C_NoProgram) "__init__" = some (some (.ref f_NoProgram_init))
  t_NoProgram : PySem.W.typeIn K (.ref f_NoProgram_init) = some (.type "function")
  e_NoProgram_NoProgram : PySem.W.exmOne K (.ref C_NoProgram) (.ref C_NoProgram) = some true
  A_KINDS : Addr
  c_KINDS : mg "KINDS" = some (.ref A_KINDS)
  A_LOCKS : Addr
  c_LOCKS : mg "LOCKS" = some (.ref A_LOCKS)
  l_LOCKS : ∃ es n, K.lookup A_LOCKS = some ⟨.type "dict", none, .dict es n, #[]⟩ ∧ PySem.W.KeysLit w.params es.toList
  A_STEPS : Addr
  c_STEPS : mg "STEPS" = some (.ref A_STEPS)
  l_STEPS : ∃ es n, K.lookup A_STEPS = some ⟨.type "dict", none, .dict es n, #[]⟩ ∧ PySem.W.KeysLit w.params es.toList
  A_NEEDED : Addr
  c_NEEDED : mg "NEEDED" = some (.ref A_NEEDED)
  l_NEEDED : ∃ es n, K.lookup A_NEEDED = some ⟨.type "dict", none, .dict es n, #[]⟩ ∧ PySem.W.KeysLit w.params es.toList
  A_AT_MOST_ONCE : Addr
  c_AT_MOST_ONCE : mg "AT_MOST_ONCE" = some (.ref A_AT_MOST_ONCE)
  A_ORDERS : Addr
  c_ORDERS : mg "ORDERS" = some (.ref A_ORDERS)
  d_KINDS : datK K 4 (.ref A_KINDS) = some tb_KINDS
  d_LOCKS : tb_LOCKS.map (fun p => nsD K A_LOCKS p.1) = tb_LOCKS.map fun p => some p.2
  d_STEPS : tb_STEPS.map (fun p => nsD K A_STEPS p.1) = tb_STEPS.map fun p => some p.2
  d_NEEDED : tb_NEEDED.map (fun p => nsD K A_NEEDED p.1) = tb_NEEDED.map fun p => some p.2
  d_AT_MOST_ONCE : datK K 4 (.ref A_AT_MOST_ONCE) = some tb_AT_MOST_ONCE
  d_ORDERS : datK K 4 (.ref A_ORDERS) = some tb_ORDERS
  t_LONGEST_NAME : Tok
  c_LONGEST_NAME : mg "LONGEST_NAME" = some (.int 8 t_LONGEST_NAME)
  t_MOST_STEPS : Tok
  c_MOST_STEPS : mg "MOST_STEPS" = some (.int 12 t_MOST_STEPS)
  z_all : mg "all" = none
  z_isinstance : mg "isinstance" = none
  z_str : mg "str" = none
  z_len : mg "len" = none
  z_tuple : mg "tuple" = none
  z_list : mg "list" = none
  z_enumerate : mg "enumerate" = none
  z_max : mg "max" = none
  z_min : mg "min" = none
  z_range : mg "range" = none
  z_bool : mg "bool" = none

theorem locks_in {k : Str} (h : k ∈ kindsL) : (k, strsD (locksT k)) ∈ tb_LOCKS := by
  have e : tb_LOCKS = kindsL.map fun k => (k, strsD (locksT k)) := by kernel_rfl
  rw [e]
  exact List.mem_map.mpr ⟨k, h, rfl⟩
theorem steps_in {k : Str} (h : k ∈ kindsL) : (k, PyData.tuple ((stepsT k).map strsD)) ∈ tb_STEPS := by
  have e : tb_STEPS = kindsL.map fun k => (k, PyData.tuple ((stepsT k).map strsD)) := by kernel_rfl
  rw [e]
  exact List.mem_map.mpr ⟨k, h, rfl⟩
theorem needed_in {k : Str} (h : k ∈ kindsL) : (k, PyData.tuple ((neededT k).map strsD)) ∈ tb_NEEDED := by
  have e : tb_NEEDED = kindsL.map fun k => (k, PyData.tuple ((neededT k).map strsD)) := by kernel_rfl
  rw [e]
  exact List.mem_map.mpr ⟨k, h, rfl⟩
theorem once_is : tb_AT_MOST_ONCE = strsD onceT := by kernel_rfl
theorem orders_is : tb_ORDERS = .tuple (ordersT.map fun p => .tuple [strsD p.1, strsD p.2]) := by kernel_rfl
theorem dp_strsT {K : PySem.W.Frag} {H : Hp} {v : V} {ss : List Str} (h : Dp K H v (strsD ss)) : ∃ a, v = .ref a ∧ SqT K H a (ss.map V.str) := by
  have h' : Dp K H v (.tuple (ss.map .str)) := h
  cases h' with
  | tup h1 h2 =>
    rw [dp_strs h2] at h1
    exact ⟨_, rfl, h1⟩
theorem dp_tupT {K : PySem.W.Frag} {H : Hp} {v : V} {ds : List PyData} (h : Dp K H v (.tuple ds)) : ∃ a xs, v = .ref a ∧ SqT K H a xs ∧ DpAll K H xs ds := by
  cases h with
  | tup h1 h2 => exact ⟨_, _, rfl, h1, h2⟩
section
variable {P : Program} {w : World} {K : PySem.W.Frag} {mg : Str → Option Value} {base : Heap}
theorem ok_law_cell (T : Txt K mg w) : FnOk P w K mg base CX0 1 T.f_law_cell T.fd_law_cell ["_law_script", "_law_k"] (sp_law_cell K) := by
  refine T.F_law_cell.ok sc_law_cell (fun vs H Q E h => ?_) (fun cdv A outer s H vs Q E hr h => ?_)
  · obtain ⟨a, ns, k, rfl, _⟩ := h
    rfl
  · obtain ⟨a, ns, k, rfl, hS, hk, kq⟩ := h
    refine ⟨_, (pss_cons (ps_if (pt_cmpR op_lt (pv 1) (pe_callB (id := "len") call_len_seq (by rfl) T.z_len (by decide +kernel) (pa_cons (pv 0) pa_nil)) (nomark _)) (pss_one (ps_ret (pe_ix ix_list (pv 0) (pv 1) (fun _ _ => rfl)))) pss_nil)
        (pss_one (ps_ret (pe_op op_add (pe_op op_mul pe_int (pv 1)) pe_int)))), ?_⟩
    refine ⟨_, rfl, _, rfl, a, _, rfl, .inl hS, _, _, rfl, rfl, _, rfl, ?_⟩
    refine ite2 (fun c => ?_) (fun c => ?_)
    · have c' := of_decide_eq_true c
      rw [List.length_map] at c'
      obtain ⟨j, rfl⟩ := Int.eq_ofNat_of_zero_le hk
      have hj : j < ns.length := by omega
      refine ⟨_, rfl, _, rfl, a, _, _, .int ns[j], rfl, rfl, hS, atI_nat (by rw [List.getElem?_map, List.getElem?_eq_getElem hj]; rfl), kq _⟩
    · refine ⟨_, rfl, _, _, rfl, rfl, .inl ⟨by decide, by decide⟩, _, _, rfl, rfl, kq _⟩
theorem ok_law_box (T : Txt K mg w) : FnOk P w K mg base CX0 1 T.f_law_box T.fd_law_box ["_law_cell_here"] sp_law_box := by
  refine T.F_law_box.ok sc_law_box (fun vs H Q E h => ?_) (fun cdv A outer s H vs Q E hr h => ?_)
  · obtain ⟨z, rfl, _⟩ := h
    rfl
  · obtain ⟨z, rfl, k⟩ := h
    refine ⟨_, (pss_one (ps_ret (pe_lst (pa_cons (pe_callB (id := "max") (call_max2 rfl) (by rfl) T.z_max (by decide +kernel) (pa_cons pe_int (pa_cons (pe_op op_sub (pv 0) (pe_op op_pow pe_int pe_int)) pa_nil))) (pa_cons (pe_op op_mod (pv 0) pe_int) (pa_cons pe_int pa_nil)))))), ?_⟩
    refine ⟨_, rfl, _, _, rfl, rfl, ⟨by decide, by decide, by decide⟩, _, _, rfl, rfl, _, _, rfl, ?_⟩
    refine ⟨_, rfl, _, _, rfl, rfl, (by show (0 : Int) < 2147483629; decide), (by show 3 ≤ sizeLine; decide), fun p hp => ?_⟩
    refine k p _ hp ⟨_, _, _, upd_same, ?_, Int.emod_nonneg _ (by decide), Int.emod_lt_of_pos _ (by decide), by decide, by decide⟩
    by_cases c : z - 10 ^ (18 : Int).toNat > 0
    · rw [if_pos c]
      omega
    · rw [if_neg c]
      exact Int.le_refl _
theorem ok_law_take (T : Txt K mg w) : FnOk P w K mg base CX0 1 T.f_law_take T.fd_law_take ["_law_box_here", "_law_many"] sp_law_take := by
  refine T.F_law_take.ok sc_law_take (fun vs H Q E h => ?_) (fun cdv A outer s H vs Q E hr h => ?_)
  · obtain ⟨H0, p, n, m, rfl, _⟩ := h
    rfl
  · obtain ⟨H0, p, n, m, rfl, B, hn, hm, hm2, k⟩ := h
    obtain ⟨d, s, c, hp, hd, hs, hs2, hc, hc2⟩ := B.box
    have hL : SqL K H p [.int d, .int s, .int c] := SqL.of hp
    have nx : ∀ (d' c' : Int), 0 ≤ d' → 0 ≤ c' → c' ≤ c + 1 → BoxIn H0 (upd H p (.lst [.int d', .int s, .int c'])) p (n + 1) := fun d' c' h1 h2 h3 =>
      ⟨fun x u e => by rw [upd_ne (ne_of_none e B.free)]; exact B.same _ _ e, B.free, d', s, c', upd_same, h1, hs, hs2, h2, by omega⟩
    refine ⟨_, (pss_cons (ps_if (pt_cmpR op_gt (pe_ix ix_list (pv 0) pe_int (fun _ _ => rfl)) pe_int (nomark _)) (pss_cons (ps_set (i := 2) sc_law_take.nd rfl (Or.inl rfl) (pe_op op_mod (pe_ix ix_list (pv 0) pe_int (fun _ _ => rfl)) (pv 1)))
        (pss_cons (ps_asg (pe_op op_fdiv (pe_ix ix_list (pv 0) pe_int (fun _ _ => rfl)) (pv 1)) (pg_sub (pv 0) pe_int set_list))
        (pss_one (ps_ret (pv 2))))) pss_nil)
        (pss_cons (ps_asg (pe_op op_add (pe_ix ix_list (pv 0) pe_int (fun _ _ => rfl)) pe_int) (pg_sub (pv 0) pe_int set_list))
        (pss_cons (ps_set (i := 3) sc_law_take.nd rfl (Or.inl rfl) (pe_op op_mod (pe_op op_pow (pe_op op_add (pe_op op_add (pe_ix ix_list (pv 0) pe_int (fun _ _ => rfl)) (pe_op op_mul pe_int (pe_ix ix_list (pv 0) pe_int (fun _ _ => rfl)))) pe_int) pe_int) pe_int))
        (pss_cons (ps_set (i := 3) sc_law_take.nd rfl (Or.inl rfl) (pe_op op_mod (pe_op op_pow (pe_op op_add (pv 3) (pe_op op_mul pe_int (pe_ix ix_list (pv 0) pe_int (fun _ _ => rfl)))) pe_int) pe_int))
        (pss_one (ps_ret (pe_op op_mod (pe_op op_fdiv (pv 3) pe_int) (pv 1)))))))), ?_⟩
    refine ⟨_, rfl, p, _, _, _, rfl, rfl, hL, atI_nat (j := 0) rfl, _, _, rfl, rfl, _, rfl, ?_⟩
    refine ite2 (fun c0 => ?_) (fun c0 => ?_)
    · have c0' := of_decide_eq_true c0
      refine ⟨_, rfl, p, _, _, _, rfl, rfl, hL, atI_nat (j := 0) rfl, _, rfl, _, _, rfl, rfl, hm, ?_⟩
      refine ⟨_, rfl, p, _, _, _, rfl, rfl, hL, atI_nat (j := 0) rfl, _, rfl, _, _, rfl, rfl, ⟨hm, by omega⟩, ?_⟩
      refine ⟨_, rfl, p, _, _, 0, rfl, rfl, hp, rfl, ?_⟩
      refine ⟨_, rfl, k _ _ (Int.emod_nonneg _ (by omega)) (Int.emod_lt_of_pos _ hm) (nx _ _ (Int.ediv_nonneg hd (by omega)) hc (by omega))⟩
    · refine ⟨_, rfl, p, _, _, _, rfl, rfl, hL, atI_nat (j := 2) rfl, _, _, rfl, rfl, ?_⟩
      refine ⟨_, rfl, p, _, _, 2, rfl, rfl, hp, rfl, ?_⟩
      have hL' : SqL K (upd H p (.lst [.int d, .int s, .int (c + 1)])) p [.int d, .int s, .int (c + 1)] := SqL.of upd_same
      refine ⟨_, rfl, p, _, _, _, rfl, rfl, hL', atI_nat (j := 1) rfl, _, rfl, p, _, _, _, rfl, rfl, hL', atI_nat (j := 2) rfl, _, _, rfl, rfl, .inl ⟨by decide, by decide⟩, _, _, rfl, rfl, _, _, rfl, rfl, _, _, rfl, rfl, ⟨by decide, by decide, by omega⟩, _, _, rfl, rfl, (by show (0 : Int) < 2147483647; decide), ?_⟩
      have h1 := Int.emod_nonneg ((s + 7919 * (c + 1) + 43) ^ (5 : Int).toNat) (show (2147483647 : Int) ≠ 0 by decide)
      have h2 := Int.emod_lt_of_pos ((s + 7919 * (c + 1) + 43) ^ (5 : Int).toNat) (show (0 : Int) < 2147483647 by decide)
      refine ⟨_, rfl, _, rfl, p, _, _, _, rfl, rfl, hL', atI_nat (j := 2) rfl, _, _, rfl, rfl, .inl ⟨by decide, by decide⟩, _, _, rfl, rfl, _, _, rfl, rfl, ⟨by decide, by decide, by omega⟩, _, _, rfl, rfl, (by show (0 : Int) < 2147483587; decide), ?_⟩
      refine ⟨_, rfl, _, _, rfl, rfl, ⟨by decide, by decide⟩, _, rfl, _, _, rfl, rfl, hm, ?_⟩
      exact k _ _ (Int.emod_nonneg _ (by omega)) (Int.emod_lt_of_pos _ hm) (nx _ _ hd (by omega) (by omega))
theorem ok_law_mixed (T : Txt K mg w) : FnOk P w K mg base CX0 2 T.f_law_mixed T.fd_law_mixed ["_law_box_here", "_law_some"] sp_mixed := by
  refine T.F_law_mixed.ok sc_law_mixed (fun vs H Q E h => ?_) (fun cdv A outer s H vs Q E hr h => ?_)
  · obtain ⟨H0, p, l, n, xs, rfl, _⟩ := h
    rfl
  · obtain ⟨H0, p, l, n, xs, rfl, B, hl, hz, hn, k⟩ := h
    refine ⟨_, (pss_cons (ps_set (i := 2) sc_law_mixed.nd rfl (Or.inr rfl) (pe_callTy (T := "list") call_list_of (by rfl) T.z_list (by decide +kernel) (pa_cons (pv 1) pa_nil)))
        (pss_one (ps_ret (pe_lc (own := [("_law_k", 3)]) (g := gName 3) (tt := tYes) rfl sc_law_mixed.nd (pi_range1 rfl T.z_range (pa_cons (pe_callB (id := "len") call_len_seq (by rfl) T.z_len (by decide +kernel) (pa_cons (pv 1) pa_nil)) pa_nil)) (blkOk_by (own := [("_law_k", 3)]) (N := ["_law_box_here", "_law_some", "_law_left", "_law_k"]) (sc := defScope s_law_mixed) (by decide +kernel)) (fun _ _ _ _ _ => (pg_name (i := 3) sc_law_mixed.nd rfl (Or.inl rfl))) (fun _ _ _ _ _ => pts_nil) (fun _ _ _ _ _ => (show PE _ _ (tBM K "list" rPopAt _ _) from (pe_bm PySem.F.plainAttrs_list PySem.F.slot_list_pop PySem.F.type_list_pop (r := rPopAt) mt_popAt (pv 2) (pa_cons (pe_call (ok_law_take T) hr rfl T.m_law_take T.F_law_take.kp T.b_law_take .nil pass0 (pa_cons (pv 0) (pa_cons (pe_callB (id := "len") (r := fun xs H Q => ∃ p ys, xs = [.ref p] ∧ (SqL K H p ys ∨ SqT K H p ys) ∧ Q (.int ys.length) H) call_len_seq (by rfl) T.z_len (by decide +kernel) (pa_cons (pv 2) pa_nil)) pa_nil))) pa_nil)))))))), ?_⟩
    have hS : SqL K H l xs := SqL.of hl
    have pn : ∀ {H' : Hp} {m : Nat}, BoxIn H0 H' p m → ∀ {t : Addr}, H' t = none → t ≠ p := fun {H' m} b {t} h => by
      obtain ⟨_, _, _, hp, _⟩ := b.box
      exact (ne_of_none hp h).symm
    refine ⟨_, rfl, l, xs, rfl, .inl hS, fun t ht => ?_⟩
    have htp := pn B ht
    have nlt : l ≠ t := ne_of_none hl ht
    have B1 : BoxIn H0 (upd H t (.lst xs)) p n := B.keep (same_new ht)
    refine ⟨_, rfl, l, xs, rfl, .inl (SqL.of (by rw [upd_ne nlt]; exact hl)), xs.length, rfl, by omega, by omega, fun D hD => ?_⟩
    have hDp := pn B1 hD
    have hDt : D ≠ t := fun e => by
      rw [e, upd_same] at hD
      cases hD
    have hD0 : H0 D = none := B1.same.free hD
    have ht0 : H0 t = none := B.same.free ht
    refine lc_range (fun i H2 => ∃ acc left : List V, H2 D = some (.lst acc) ∧ acc.length = i ∧ H2 t = some (.lst left) ∧ (acc ++ left).Perm xs ∧ BoxIn H0 H2 p (n + i)) ⟨[], xs, upd_same, rfl, by rw [upd_ne hDt.symm, upd_same], List.Perm.refl _, B1.mut hDp hD0⟩ ?_ ?_
    · rintro i H2 hi ⟨acc, left, hl2, hy, ht2, hpm, B2⟩
      have hll : left.length = xs.length - i := by
        have := hpm.length_eq
        rw [List.length_append] at this
        omega
      have B2' := B2.all
      refine ⟨rfl, tyes ⟨_, rfl, .inl ⟨rfl, _, .inl (.inl ht2)⟩, _, rfl, _, rfl, t, left, rfl, .inl (SqL.of ht2), but H2 p, p, _, _, rfl, B2'.1, by omega, by omega, by omega, fun z H3 z0 z1 B3 => ?_⟩⟩
      obtain ⟨j, rfl⟩ := Int.eq_ofNat_of_zero_le z0
      have hj : j < left.length := by omega
      have ht3 : H3 t = some (.lst left) := B3.same _ _ (by rw [but_ne htp]; exact ht2)
      have hl3 : H3 D = some (.lst acc) := B3.same _ _ (by rw [but_ne hDp]; exact hl2)
      have hsi : seqIndex? (j : Int) left.length = some j := by
        unfold seqIndex?
        have e1 : ¬ ((j : Int) < 0) := by omega
        simp only [e1, if_false]
        rw [if_pos (by simp; omega)]
        simp
      refine ⟨t, left, (j : Int), j, left[j], rfl, rfl, ht3, by omega, by omega, hsi, List.getElem?_eq_getElem hj, acc, by rw [upd_ne hDt]; exact hl3, Nat.lt_of_lt_of_le (show acc.length < 200 by omega) (by decide), acc ++ [left[j]], left.eraseIdx j, upd_same, by simp [hy], by rw [upd_ne hDt.symm, upd_same], ?_, ?_⟩
      · refine List.Perm.trans ?_ hpm
        rw [List.append_assoc]
        refine List.Perm.append_left _ ?_
        rw [List.eraseIdx_eq_take_drop_succ]
        have e : left = left.take j ++ left[j] :: left.drop (j + 1) := by
          rw [List.getElem_cons_drop, List.take_append_drop]
        have q : (left.take j ++ left[j] :: left.drop (j + 1)).Perm (left[j] :: (left.take j ++ left.drop (j + 1))) := List.perm_middle
        exact q.symm.trans (List.Perm.of_eq e.symm)
      · exact ((B3.low B2'.2).mut htp ht0).mut hDp hD0
    · rintro H2 ⟨acc, left, hl2, hy, ht2, hpm, B2⟩
      have e : left = [] := by
        have := hpm.length_eq
        rw [List.length_append] at this
        exact List.length_eq_zero_iff.mp (by omega)
      rw [e, List.append_nil] at hpm
      exact k D H2 acc B2.same hD0 hDp hl2 hpm B2
theorem ok_law_names (T : Txt K mg w) : FnOk P w K mg base CX0 3 T.f_law_names T.fd_law_names ["_law_box_here", "_law_many"] sp_names := by
  refine T.F_law_names.ok sc_law_names (fun vs H Q E h => ?_) (fun cdv A outer s H vs Q E hr h => ?_)
  · obtain ⟨H0, p, n, m, rfl, _⟩ := h
    rfl
  · obtain ⟨H0, p, n, m, rfl, B, hm, hn, k⟩ := h
    refine ⟨_, (pss_cons (ps_set (i := 2) sc_law_names.nd rfl (Or.inl rfl) pe_str)
        (pss_cons (ps_if (pt_cmpR op_eq (pe_call (ok_law_take T) (hr.mono (by decide)) rfl T.m_law_take T.F_law_take.kp T.b_law_take .nil pass0 (pa_cons (pv 0) (pa_cons pe_int pa_nil))) pe_int (nomark _)) (pss_cons (ps_set (i := 3) sc_law_names.nd rfl (Or.inl rfl) (pe_lst (pa_cons pe_str (pa_cons pe_str (pa_cons pe_str (pa_cons pe_str (pa_cons pe_str (pa_cons pe_str (pa_cons pe_str (pa_cons pe_str (pa_cons pe_str (pa_cons pe_str (pa_cons pe_str (pa_cons pe_str (pa_cons pe_str pa_nil)))))))))))))))
        (pss_one (ps_ret (pe_slice sl_list (pe_call (ok_law_mixed T) hr rfl T.m_law_mixed T.F_law_mixed.kp T.b_law_mixed .nil pass0 (pa_cons (pv 0) (pa_cons (pv 3) pa_nil))) po_none (po_some (pv 1)))))) pss_nil)
        (pss_cons (ps_set (i := 4) sc_law_names.nd rfl (Or.inl rfl) (pe_ix ix_list (pe_lst (pa_cons pe_str (pa_cons pe_str (pa_cons pe_str (pa_cons pe_str (pa_cons pe_str (pa_cons pe_str pa_nil))))))) (pe_call (ok_law_take T) (hr.mono (by decide)) rfl T.m_law_take T.F_law_take.kp T.b_law_take .nil pass0 (pa_cons (pv 0) (pa_cons pe_int pa_nil))) (fun _ _ => rfl)))
        (pss_cons (ps_par3 (i := 5) (j := 6) (l := 7) (by rfl) sc_law_names.nd rfl rfl rfl (by decide) (by decide) (by decide) rfl rfl rfl (pa_cons (pe_call (ok_law_take T) (hr.mono (by decide)) rfl T.m_law_take T.F_law_take.kp T.b_law_take .nil pass0 (pa_cons (pv 0) (pa_cons pe_int pa_nil))) (pa_cons (pe_ix ix_list (pe_lst (pa_cons pe_int (pa_cons pe_int (pa_cons pe_int (pa_cons pe_int (pa_cons pe_int (pa_cons pe_int pa_nil))))))) (pe_call (ok_law_take T) (hr.mono (by decide)) rfl T.m_law_take T.F_law_take.kp T.b_law_take .nil pass0 (pa_cons (pv 0) (pa_cons pe_int pa_nil))) (fun _ _ => rfl)) (pa_cons (pe_call (ok_law_take T) (hr.mono (by decide)) rfl T.m_law_take T.F_law_take.kp T.b_law_take .nil pass0 (pa_cons (pv 0) (pa_cons pe_int pa_nil))) pa_nil))) (by rfl))
        (pss_cons (ps_set (i := 8) sc_law_names.nd rfl (Or.inl rfl) (pe_lst pa_nil))
        (pss_cons (ps_for PassesOwn.never rfl (pi_range1 rfl T.z_range (pa_cons (pv 1) pa_nil)) (pg_name (i := 9) sc_law_names.nd rfl (Or.inl rfl))
          (pss_cons (ps_set (i := 10) sc_law_names.nd rfl (Or.inl rfl) (pe_ix ix_str (pv 2) (pe_op op_mod (pe_op op_add (pv 5) (pe_op op_mul (pv 6) (pv 9))) pe_int) (fun _ _ => rfl)))
        (pss_cons (ps_set (i := 11) sc_law_names.nd rfl (Or.inl rfl) (pe_ix ix_list (pe_lst (pa_cons (pe_op op_add_str (pv 4) (pv 10)) (pa_cons (pe_op op_add_str (pv 10) (pv 4)) (pa_cons (pv 10) pa_nil)))) (pe_ifExp (pt_cmpR op_gt (pv 9) pe_int (nomark _)) (pv 7) pe_int) (fun _ _ => rfl)))
        (pss_one (ps_expr (pe_bm PySem.F.plainAttrs_list PySem.F.slot_list_append PySem.F.type_list_append mt_append (pv 8) (pa_cons (pe_ifExp (pt_cmpR op_eq (pv 11) pe_str (nomark _)) pe_str (pv 11)) pa_nil)))))))
        (pss_one (ps_ret (pv 8))))))))), ?_⟩
    have pn : ∀ {H0 H' : Hp} {m : Nat}, BoxIn H0 H' p m → ∀ {t : Addr}, H' t = none → t ≠ p := fun {H0 H' m} b {t} h => by
      obtain ⟨_, _, _, hp, _⟩ := b.box
      exact (ne_of_none hp h).symm
    refine ⟨_, rfl, H0, p, n, 7, rfl, B, by omega, by decide, by decide, fun z1 H1 z10 z11 B1 => ⟨rfl, _, rfl, ?_⟩⟩
    refine ite2 (fun c => ?_) (fun c => ?_)
    · refine ⟨(by show 13 ≤ sizeLine; decide), fun l hl => ?_⟩
      have B2 := B1.keep (same_new (o := .lst ((["begin", "empty", "rest", "step", "end", "look", "old", "new", "put", "part", "move", "split", "lock"] : List Str).map V.str)) hl)
      have hlp := pn B1 hl
      refine ⟨_, rfl, _, rfl, H0, p, l, _, (["begin", "empty", "rest", "step", "end", "look", "old", "new", "put", "part", "move", "split", "lock"] : List Str).map V.str, rfl, B2, upd_same, by decide, by show n + 1 + 13 < 1000000; omega, fun q H3 ys s3 hq0 hqp hq3 hpm B3 => ?_⟩
      obtain ⟨ss, rfl, hss⟩ := strs_of (xs := ys) (W := ["begin", "empty", "rest", "step", "end", "look", "old", "new", "put", "part", "move", "split", "lock"]) fun y hy => by
        obtain ⟨s, hs, e⟩ := List.mem_map.mp (hpm.mem_iff.mp hy)
        exact ⟨s, hs, e.symm⟩
      have hlen : ss.length = 13 := by
        have := hpm.length_eq
        rw [List.length_map, List.length_map] at this
        exact this
      refine ⟨_, rfl, m, rfl, q, _, rfl, SqL.of hq3, fun r hr => ?_⟩
      have e : cutV (ss.map V.str) none (some (m : Int)) = (ss.take m).map V.str := by
        unfold cutV
        rw [HT.sIx_none, HT.sIx_nat, List.length_map, hlen, List.drop_zero, Nat.sub_zero, List.map_take, Nat.min_eq_left hm]
      rw [e]
      have all : ∀ s ∈ (["begin", "empty", "rest", "step", "end", "look", "old", "new", "put", "part", "move", "split", "lock"] : List Str), sOk 16 s := by
        unfold sOk
        decide +kernel
      refine k r _ (ss.take m) (s3.trans (same_new hr)) (s3.free hr) (pn B3 hr) upd_same ?_ (fun s hs => all s (hss s (List.mem_of_mem_take hs))) ((B3.keep (same_new hr)).mono (by show n + 1 + 13 ≤ n + 40; omega))
      rw [List.length_take, hlen]
      omega
    · refine ⟨(by show 6 ≤ sizeLine; decide), fun l hl => ?_⟩
      have B2 := B1.new (o := .lst ((["", "a", "tabl", "rest", "part", "zzzzzzz"] : List Str).map V.str)) hl
      refine ⟨_, rfl, _, p, _, 6, rfl, B2.1, by omega, by decide, by decide, fun z2 H2 z20 z21 B3 => ?_⟩
      obtain ⟨v, hv, hm1⟩ := atI_in (xs := (["", "a", "tabl", "rest", "part", "zzzzzzz"] : List Str).map V.str) z20 z21
      refine ⟨l, _, z2, v, rfl, rfl, SqL.of (B3.same _ _ upd_same), hv, ?_⟩
      obtain ⟨stem, hst, rfl⟩ := List.mem_map.mp hm1
      have hstem : sOk 7 stem := by
        have all : ∀ s ∈ (["", "a", "tabl", "rest", "part", "zzzzzzz"] : List Str), sOk 7 s := by
          unfold sOk
          decide +kernel
        exact all _ hst
      have B4 := B3.low B2.2
      refine ⟨_, rfl, H0, p, _, 26, rfl, B4, by omega, by decide, by decide, fun zf H3 zf0 zf1 B5 => ?_⟩
      refine ⟨(by show 6 ≤ sizeLine; decide), fun l2 hl2 => ?_⟩
      have B6 := B5.new (o := .lst ([1, 3, 5, 7, 9, 11].map V.int)) hl2
      refine ⟨_, rfl, _, p, _, 6, rfl, B6.1, by omega, by decide, by decide, fun z3 H4 z30 z31 B7 => ?_⟩
      obtain ⟨v3, hv3, hm3⟩ := atI_in (xs := ([1, 3, 5, 7, 9, 11] : List Int).map V.int) z30 z31
      refine ⟨l2, _, z3, v3, rfl, rfl, SqL.of (B7.same _ _ upd_same), hv3, ?_⟩
      obtain ⟨stp, hstp, rfl⟩ := List.mem_map.mp hm3
      have B8 := B7.low B6.2
      refine ⟨_, rfl, H0, p, _, 3, rfl, B8, by omega, by decide, by decide, fun zw H5 zw0 zw1 B9 => ⟨_, _, _, rfl, ?_⟩⟩
      refine ⟨(by show 0 ≤ sizeLine; decide), fun f hf => ?_⟩
      have hfp := pn B9 hf
      have hf0 : H0 f = none := B9.same.free hf
      refine ⟨_, rfl, m, rfl, ?_, ?_, for_range (fun i σ H' => ∃ (v3 v9 v10 v11 : Option V) (ss : List Str), σ = [some (.ref p), some (.int m), some (.str "abcdefghijklmnopqrstuvwxyz"), v3, some (.str stem), some (.int zf), some (.int stp), some (.int zw), some (.ref f), v9, v10, v11] ∧ H' f = some (.lst (ss.map V.str)) ∧ ss.length = i ∧ (∀ s ∈ ss, sOk 16 s) ∧ BoxIn H0 H' p (n + 5)) ⟨_, none, none, none, [], rfl, upd_same, rfl, (fun s h => by cases h), B9.mut hfp hf0⟩ ?_ ?_⟩
      · omega
      · omega
      · rintro i σ H6 hi ⟨v3, v9, v10, v11, ss, rfl, hff, hlen, hok, C⟩
        have hstp2 : 0 ≤ stp ∧ stp ≤ 11 := by
          have all : ∀ i ∈ ([1, 3, 5, 7, 9, 11] : List Int), 0 ≤ i ∧ i ≤ 11 := by decide
          exact all _ hstp
        refine ⟨_, rfl, _, rfl, _, rfl, _, rfl, _, _, rfl, rfl, .inl ⟨by omega, by omega⟩, _, _, rfl, rfl, _, _, rfl, rfl, (by show (0 : Int) < 26; decide), ?_⟩
        have e26 : ("abcdefghijklmnopqrstuvwxyz" : Str).cps.toList.length = 26 := by decide +kernel
        obtain ⟨ch, hch, hmc⟩ := atI_in (xs := ("abcdefghijklmnopqrstuvwxyz" : Str).cps.toList) (z := (zf + stp * (0 + (i : Int))) % 26) (Int.emod_nonneg _ (by decide)) (by rw [e26]; exact Int.emod_lt_of_pos _ (by decide))
        have hsg : sOk 1 (⟨#[ch]⟩ : Str) := by
          refine ⟨Nat.le_refl _, strOk_sign ?_⟩
          have all : ∀ c ∈ ("abcdefghijklmnopqrstuvwxyz" : Str).cps.toList, c < 0x110000 := by decide +kernel
          exact all _ hmc
        refine ⟨_, _, ch, rfl, rfl, by decide +kernel, hch, ?_⟩
        have l1 : stem.length + (⟨#[ch]⟩ : Str).length ≤ sizeLine := Nat.le_trans (Nat.add_le_add hstem.1 hsg.1) (by decide)
        have l2' : (⟨#[ch]⟩ : Str).length + stem.length ≤ sizeLine := Nat.le_trans (Nat.add_le_add hsg.1 hstem.1) (by decide)
        refine ⟨_, rfl, _, rfl, _, _, rfl, rfl, l1, _, rfl, _, rfl, _, _, rfl, rfl, l2', _, rfl, (by show 3 ≤ sizeLine; decide), fun l3 hl3 => ?_⟩
        have hfl3 : f ≠ l3 := ne_of_none hff hl3
        have C2 := C.keep (same_new (o := .lst [V.str (stem ++ ⟨#[ch]⟩), .str ((⟨#[ch]⟩ : Str) ++ stem), .str ⟨#[ch]⟩]) hl3)
        have pick : ∀ z : Int, 0 ≤ z → z < 3 → ∃ s : Str, atI [V.str (stem ++ ⟨#[ch]⟩), .str ((⟨#[ch]⟩ : Str) ++ stem), .str ⟨#[ch]⟩] z = some (.str s) ∧ sOk 16 s := fun z z0 z3 => by
          obtain ⟨v, hv, hm⟩ := atI_in (xs := [V.str (stem ++ ⟨#[ch]⟩), .str ((⟨#[ch]⟩ : Str) ++ stem), .str ⟨#[ch]⟩]) z0 z3
          simp only [List.mem_cons, List.not_mem_nil, or_false] at hm
          rcases hm with rfl | rfl | rfl
          · exact ⟨_, hv, (hstem.app hsg).mono (by decide)⟩
          · exact ⟨_, hv, (hsg.app hstem).mono (by decide)⟩
          · exact ⟨_, hv, hsg.mono (by decide)⟩
        have hff2 : upd H6 l3 (.lst [V.str (stem ++ ⟨#[ch]⟩), .str ((⟨#[ch]⟩ : Str) ++ stem), .str ⟨#[ch]⟩]) f = some (.lst (ss.map V.str)) := by rw [upd_ne hfl3]; exact hff
        have hsz : (ss.map V.str).length < sizeLine := by
          rw [List.length_map, hlen]
          exact Nat.lt_of_lt_of_le (show i < 100 by omega) (by decide)
        have nx : ∀ s : Str, sOk 16 s → upd (upd H6 l3 (.lst [V.str (stem ++ ⟨#[ch]⟩), .str ((⟨#[ch]⟩ : Str) ++ stem), .str ⟨#[ch]⟩])) f (.lst (ss.map V.str ++ [V.str s])) f = some (.lst ((ss ++ [s]).map V.str)) ∧ (ss ++ [s]).length = i + 1 ∧ (∀ x ∈ ss ++ [s], sOk 16 x) ∧
            BoxIn H0 (upd (upd H6 l3 (.lst [V.str (stem ++ ⟨#[ch]⟩), .str ((⟨#[ch]⟩ : Str) ++ stem), .str ⟨#[ch]⟩])) f (.lst (ss.map V.str ++ [V.str s]))) p (n + 5) := fun s hs => by
          refine ⟨by rw [upd_same, List.map_append]; rfl, by simp [hlen], fun x hx => ?_, C2.mut hfp hf0⟩
          rcases List.mem_append.mp hx with q | q
          · exact hok x q
          · rw [List.mem_singleton.mp q]
            exact hs
        refine ⟨_, rfl, _, _, rfl, rfl, _, rfl, ?_⟩
        refine ite2 (fun c => ?_) (fun c => ?_)
        · obtain ⟨nm, hnm, hok2⟩ := pick zw zw0 zw1
          refine ⟨_, rfl, l3, _, zw, _, rfl, rfl, SqL.of upd_same, hnm, ?_⟩
          refine ⟨_, rfl, .inl ⟨rfl, _, .inl (.inl hff2)⟩, _, rfl, rfl, _, rfl, ?_⟩
          refine ite2 (fun c => ?_) (fun c => ?_)
          · obtain ⟨n1, n2, n3, n4⟩ := nx "tables" (by unfold sOk; decide +kernel)
            exact ⟨f, _, _, rfl, rfl, hff2, hsz, _, _, _, _, _, rfl, n1, n2, n3, n4⟩
          · obtain ⟨n1, n2, n3, n4⟩ := nx nm hok2
            exact ⟨_, rfl, f, _, _, rfl, rfl, hff2, hsz, _, _, _, _, _, rfl, n1, n2, n3, n4⟩
        · obtain ⟨nm, hnm, hok2⟩ := pick 0 (by decide) (by decide)
          refine ⟨l3, _, 0, _, rfl, rfl, SqL.of upd_same, hnm, ?_⟩
          refine ⟨_, rfl, .inl ⟨rfl, _, .inl (.inl hff2)⟩, _, rfl, rfl, _, rfl, ?_⟩
          refine ite2 (fun c => ?_) (fun c => ?_)
          · obtain ⟨n1, n2, n3, n4⟩ := nx "tables" (by unfold sOk; decide +kernel)
            exact ⟨f, _, _, rfl, rfl, hff2, hsz, _, _, _, _, _, rfl, n1, n2, n3, n4⟩
          · obtain ⟨n1, n2, n3, n4⟩ := nx nm hok2
            exact ⟨_, rfl, f, _, _, rfl, rfl, hff2, hsz, _, _, _, _, _, rfl, n1, n2, n3, n4⟩
      · rintro σ H6 ⟨v3, v9, v10, v11, ss, rfl, hff, hlen, hok, C⟩
        refine ⟨_, rfl, ?_⟩
        exact k f H6 ss C.same hf0 hfp hff (by rw [hlen]; simp) hok (C.mono (by omega))
theorem ok_is_name (T : Txt K mg w) : FnOk P w K mg base CX0 1 T.f_is_name T.fd_is_name ["value"] (sp_v1 K nameO) := by
  refine T.F_is_name.ok sc_is_name (fun vs H Q E h => ?_) (fun cdv A outer s H vs Q E hr h => ?_)
  · obtain ⟨v, o, rfl, _⟩ := h
    rfl
  · obtain ⟨v, o, rfl, hv, k⟩ := h
    have ty := hv.ty
    refine ⟨_, (pss_cons (ps_if (PW.pt (pw_or (pt_not (pt_val (pe_callB (id := "isinstance") call_isi (by rfl) T.z_isinstance (by decide +kernel) (pa_cons (pv 0) (pa_cons (pe_bltn (v := .ty "str") (u := .type "str") (by rfl) T.z_str (by decide +kernel) rfl) pa_nil))))) (pw_or1 (pt_cmpR op_eq (pv 0) pe_str (nomark _))))) (pss_one (ps_ret pe_bl)) pss_nil)
        (pss_one (ps_ret (pe_and (pe_chain op_le op_le pe_int (pe_callB (id := "len") call_len_str (by rfl) T.z_len (by decide +kernel) (pa_cons (pv 0) pa_nil)) (pe_glob (v := .int 8) rfl T.c_LONGEST_NAME ⟨_, rfl⟩)) (pe_one (pe_callB (id := "all") (cr_all rfl) (by rfl) T.z_all (by decide +kernel) (pa_cons (pe_lc (own := [("sign", 1)]) (g := gName 1) (tt := tYes) rfl sc_is_name.nd (pi_str (pv 0)) (blkOk_by (own := [("sign", 1)]) (N := ["value", "sign"]) (sc := defScope s_is_name) (by decide +kernel)) (fun _ _ _ _ _ => (pg_name (i := 1) sc_is_name.nd rfl (Or.inl rfl))) (fun _ _ _ _ _ => pts_nil) (fun _ _ _ _ _ => (pe_chain op_le_str op_le_str pe_str (pv 1) pe_str))) pa_nil))))))), ?_⟩
    refine ⟨_, rfl, _, _, _, _, _, rfl, .ty _, ty, kit_o o (.inr (.inr (.inl rfl))), _, rfl, ?_⟩
    cases e : isT "str" o with
    | false =>
      have e2 : nameO o = false := by
        rcases o with _ | d
        · rfl
        · cases d with
          | str s => cases e
          | _ => rfl
      rw [e2] at k
      exact iteT (iteT (k H (Same.refl H)))
    | true =>
      obtain ⟨s, rfl, rfl, hs⟩ : ∃ s, v = .str s ∧ o = some (.str s) ∧ s.length ≤ 1000 := by
        cases hv with
        | dat a _ c =>
          cases a with
          | str s => exact ⟨s, rfl, rfl, c s rfl⟩
          | _ => cases e
        | dic a => cases e
      have hz : s.length ≤ sizeLine := Nat.le_trans hs (by decide)
      refine iteF ⟨_, rfl, rfl, _, rfl, ?_⟩
      have k : ∀ H', Same H H' → Q (.bl (nameS s)) H' := k
      unfold nameS at k
      rw [dec_str]
      cases e1 : s == ("table" : Str) with
      | true =>
        rw [e1] at k
        exact iteT (k H (Same.refl H))
      | false =>
        rw [e1] at k
        refine iteF ?_
        have k : ∀ H', Same H H' → Q (.bl (decide ((1 : Int) ≤ s.length) && (decide ((s.length : Int) ≤ 8) && s.cps.toList.all okSign))) H' := k
        refine ⟨_, rfl, _, rfl, hz, _, _, rfl, rfl, _, rfl, ?_⟩
        cases e2 : decide ((1 : Int) ≤ s.length) with
        | false =>
          rw [e2] at k
          exact iteF ⟨_, rfl, iteF (k H (Same.refl H))⟩
        | true =>
          rw [e2] at k
          refine iteT ⟨_, _, rfl, rfl, _, rfl, ?_⟩
          cases e3 : decide ((s.length : Int) ≤ 8) with
          | false =>
            rw [e3] at k
            exact iteF (k H (Same.refl H))
          | true =>
            rw [e3] at k
            refine iteT ⟨_, rfl, _, rfl, ?_⟩
            intro D hD
            refine lc_acc walk_str hD (fun _ _ => trivial) (fun i => (s.cps.toList.take i).map fun c => V.bl (okSign c)) rfl (fun i hi => ?_) ?_ ?_
            · rw [List.length_map, List.length_take]
              have : s.cps.size ≤ 1000 := hs
              exact Nat.lt_of_le_of_lt (Nat.min_le_left _ _) (Nat.lt_of_lt_of_le hi (Nat.le_trans this (by decide)))
            · rintro i x H2 hi ⟨c, hc, rfl⟩ s1 R S r1 r2
              have ea : ((s.cps.toList.take (i + 1)).map fun c => V.bl (okSign c)) = ((s.cps.toList.take i).map fun c => V.bl (okSign c)) ++ [V.bl (okSign c)] := by
                have hc' : s.cps.toList[i]? = some c := by rw [Array.getElem?_toList]; exact hc
                rw [List.take_add_one, hc']
                simp
              refine ⟨rfl, tyes ⟨_, rfl, _, _, rfl, rfl, _, rfl, ?_⟩⟩
              have ec : okSign c = (!decide (([c] : List Nat) < [97]) && !decide (([122] : List Nat) < [c])) := rfl
              have ea1 : ("a" : Str).cps.toList = [97] := by decide +kernel
              have ez1 : ("z" : Str).cps.toList = [122] := by decide +kernel
              rw [ea1]
              cases e4 : (!decide (([c] : List Nat) < [97])) with
              | false =>
                rw [e4] at ec
                refine iteF (r1 _ _ ?_ (Same.refl _))
                rw [ea, ec]
                rfl
              | true =>
                rw [e4] at ec
                refine iteT ⟨_, _, rfl, rfl, r1 _ _ ?_ (Same.refl _)⟩
                rw [ea, ec, ez1]
                rfl
            · intro H2 s1 hl
              refine ⟨D, s.cps.toList.map okSign, rfl, SqL.of ?_, ?_⟩
              · rw [hl, List.map_map]
                have : s.cps.toList.take s.cps.size = s.cps.toList := by rw [← Array.length_toList, List.take_length]
                rw [this]
                rfl
              · have := k H2 s1
                rw [List.all_map]
                exact this
theorem ok_NoProgram_init (T : Txt K mg w) : FnOk P w K mg base CX0 1 T.f_NoProgram_init T.fd_NoProgram_init ["self", "kind"] (sp_xinit K T.C_NoProgram "kind") := by
  refine T.F_NoProgram_init.ok sc_NoProgram_init (fun vs H Q E h => ?_) (fun cdv A outer s H vs Q E hr h => ?_)
  · obtain ⟨a, v, rfl, _⟩ := h
    rfl
  · obtain ⟨a, v, rfl, x, n, ha, k⟩ := h
    refine ⟨_, (pss_one (ps_ost (pv 0) (pv 1))), ?_⟩
    exact ⟨_, rfl, _, rfl, a, T.C_NoProgram, rfl, x, n, .inl ⟨ha, k⟩⟩
theorem ok_is_kind (T : Txt K mg w) : FnOk P w K mg base CX0 1 T.f_is_kind T.fd_is_kind ["value"] (sp_kind K) := by
  refine T.F_is_kind.ok sc_is_kind (fun vs H Q E h => ?_) (fun cdv A outer s H vs Q E hr h => ?_)
  · obtain ⟨v, d, rfl, _⟩ := h
    rfl
  · obtain ⟨v, d, rfl, hd, sd, k⟩ := h
    refine ⟨_, (pss_one (ps_ret (pe_cmpR (op_inT (u65 hr)) (pv 0) (pe_glob (v := .ref T.A_KINDS) rfl T.c_KINDS rfl) (by rfl)))), ?_⟩
    obtain ⟨u, ru, du⟩ := datK_ok 4 T.d_KINDS
    obtain rfl : u = .ref T.A_KINDS := relref ru
    exact ⟨_, rfl, d, _, hd, du H, sd, kinds_shaped, k⟩
theorem ok_require_kind (T : Txt K mg w) : FnOk P w K mg base (L2.CX P w) 3 T.f_require_kind T.fd_require_kind ["value"] (sp_rkind K T.C_NoProgram) := by
  refine T.F_require_kind.okX sc_require_kind (fun vs H Q E h => ?_) (fun cdv A outer s H vs Q E hr h => ?_)
  · obtain ⟨v, d, rfl, _⟩ := h
    rfl
  · obtain ⟨v, d, rfl, hd, sd, k1, k2⟩ := h
    refine ⟨_, (pss_one (ps_if (pt_not (pt_val (pe_call (ok_is_kind T) (hr.mono (by decide)) rfl T.m_is_kind T.F_is_kind.kp T.b_is_kind .nil pass0 (pa_cons (pv 0) pa_nil)))) (pss_one (ps_raise rfl (takes_of rfl rfl rfl rfl) (pmk_oex T.x_NoProgram T.i_NoProgram T.t_NoProgram (ok_NoProgram_init T) hr T.b_NoProgram_init .nil pass0 rfl T.g_NoProgram (pa_cons (pv 0) pa_nil)))) pss_nil)), ?_⟩
    refine ⟨_, rfl, v, d, rfl, hd, sd, _, rfl, ?_⟩
    cases e : kindD d with
    | true => exact iteF (k1 e)
    | false => exact iteT ⟨_, rfl, raise_x T.x_NoProgram T.n_NoProgram (k2 e)⟩
theorem ok_is_step (T : Txt K mg w) : FnOk P w K mg base (L2.CX P w) 4 T.f_is_step T.fd_is_step ["value", "kind"] (sp_is_step K T.C_NoProgram) := by
  refine T.F_is_step.okX sc_is_step (fun vs H Q E h => ?_) (fun cdv A outer s H vs Q E hr h => ?_)
  · obtain ⟨x, y, o, d, rfl, _⟩ := h
    rfl
  · obtain ⟨x, y, o, d, rfl, hv, hsho, hd, sd, k1, k2⟩ := h
    refine ⟨_, (pss_cons (ps_expr (pe_call (ok_require_kind T) hr rfl T.m_require_kind T.F_require_kind.kp T.b_require_kind .nil (passC (takes_of rfl rfl rfl rfl)) (pa_cons (pv 1) pa_nil)))
        (pss_cons (ps_if (pt_not (pt_val (pe_callB (id := "isinstance") call_isi (by rfl) T.z_isinstance (by decide +kernel) (pa_cons (pv 0) (pa_cons (pe_bltn (v := .ty "tuple") (u := .type "tuple") (by rfl) T.z_tuple (by decide +kernel) rfl) pa_nil))))) (pss_one (ps_ret pe_bl)) pss_nil)
        (pss_cons (ps_if (pt_cmpR op_eq (pe_callB (id := "len") call_len_seq (by rfl) T.z_len (by decide +kernel) (pa_cons (pv 0) pa_nil)) pe_int (nomark _)) (pss_cons (ps_asg (pv 0) (pg_tup rfl (pgs_cons (pg_name (i := 2) sc_is_step.nd rfl (Or.inl rfl)) (pgs_cons (pg_name (i := 3) sc_is_step.nd rfl (Or.inl rfl)) (pgs_cons (pg_name (i := 4) sc_is_step.nd rfl (Or.inl rfl)) pgs_nil)))))
        (pss_one (ps_ret (pe_and (pe_cmpR (op_eqD hr.units) (pv 2) pe_str (nomark _)) (pe_and (pe_cmpR (op_inT (u65 hr)) (pv 3) (pe_ix ix_kdict (pe_glob (v := .ref T.A_LOCKS) rfl T.c_LOCKS rfl) (pv 1) (fun _ _ => rfl)) (by rfl)) (pe_one (pe_call (ok_is_name T) (hr.mono (by decide)) rfl T.m_is_name T.F_is_name.kp T.b_is_name .nil pass0 (pa_cons (pv 4) pa_nil)))))))) pss_nil)
        (pss_one (ps_ret (pe_cmpR (op_inT (u65 hr)) (pv 0) (pe_ix ix_kdict (pe_glob (v := .ref T.A_STEPS) rfl T.c_STEPS rfl) (pv 1) (fun _ _ => rfl)) (by rfl))))))), ?_⟩
    refine ⟨_, rfl, y, d, rfl, hd, sd, fun e1 => ?_, fun e => k1 e⟩
    obtain ⟨kd, hk, rfl⟩ := kindD_of e1
    have k := k2 kd rfl hk
    obtain rfl : y = .str kd := by cases hd; rfl
    have ty := hv.ty
    refine ⟨_, rfl, _, _, _, _, _, rfl, .ty _, ty, kit_o o (.inr (.inr (.inr rfl))), _, rfl, ?_⟩
    cases e : isT "tuple" o with
    | false =>
      rw [stepO_ty e] at k
      exact iteT (k H (Same.refl H))
    | true =>
      obtain ⟨a, xs, ds, rfl, rfl, hT, hD, hsh⟩ := hv.tup_of e
      have hst := (hsho _ rfl).2
      refine iteF ⟨_, rfl, _, _, rfl, .inr hT, rfl, _, rfl, ?_⟩
      rw [dec_int]
      by_cases e2 : xs.length = 3
      · have e3 : (((xs.length : Nat) : Int) == 3) = true := by rw [e2]; rfl
        rw [e3]
        obtain ⟨x, y, z, d1, d2, d3, rfl, rfl, h1, h2, h3⟩ := dp_three hD e2
        have s1 := shaped_item (shaped_of_tuple hsh (d := d1) (by simp))
        have s2 := shaped_item (shaped_of_tuple hsh (d := d2) (by simp))
        have s3 := shaped_item (shaped_of_tuple hsh (d := d3) (by simp))
        refine iteT ⟨_, rfl, a, _, rfl, hT, rfl, _, _, rfl, _, _, rfl, _, _, rfl, rfl, ?_⟩
        have k : ∀ H', Same H H' → Q (.bl (PyData.eqv d1 (.str "lock") && ((((locksT kd).map PyData.str).any fun z => PyData.eqv z d2) && nameO (some d3)))) H' := k
        refine ⟨_, rfl, d1, .str "lock", h1, .str _, s1, by decide +kernel, _, rfl, ?_⟩
        cases q1 : PyData.eqv d1 (.str "lock") with
        | false =>
          rw [q1] at k
          exact iteF (k H (Same.refl H))
        | true =>
          rw [q1] at k
          obtain ⟨u, ku, du⟩ := nsD_ok T.l_LOCKS T.d_LOCKS (locks_in hk)
          refine iteT ⟨_, rfl, _, rfl, _, _, u, rfl, rfl, ku, d2, _, h2, du H, s2, locks_shaped hk, _, rfl, ?_⟩
          cases q2 : (((locksT kd).map PyData.str).any fun z => PyData.eqv z d2) with
          | false =>
            rw [q2] at k
            exact iteF (k H (Same.refl H))
          | true =>
            rw [q2] at k
            exact iteT ⟨_, rfl, z, some d3, rfl, .dat h3 s3 (fun s e => hst s (by rw [e]; simp)), k⟩
      · have e3 : (((xs.length : Nat) : Int) == 3) = false := by
          rw [beq_eq_false_iff_ne]
          omega
        rw [e3]
        have hlen := dpAll_len hD
        have k : ∀ H', Same H H' → Q (.bl (stepD kd ds)) H' := k
        rw [stepD_else (by omega)] at k
        obtain ⟨u, ku, du⟩ := nsD_ok T.l_STEPS T.d_STEPS (steps_in hk)
        exact iteF ⟨_, rfl, _, rfl, _, _, u, rfl, rfl, ku, .tuple ds, _, .tup hT hD, du H, hsh, steps_shaped hk, k H (Same.refl H)⟩
theorem ok_step_text (T : Txt K mg w) : FnOk P w K mg base CX0 1 T.f_step_text T.fd_step_text ["step"] (sp_step_text K) := by
  refine T.F_step_text.ok sc_step_text (fun vs H Q E h => ?_) (fun cdv A outer s H vs Q E hr h => ?_)
  · obtain ⟨a, t, rfl, _⟩ := h
    rfl
  · obtain ⟨a, t, rfl, ha, hl, hz, k⟩ := h
    refine ⟨_, (pss_one (ps_ret (pe_join pe_str (pv 0)))), ?_⟩
    refine ⟨⟨_, rfl⟩, _, rfl, " ", a, t, rfl, rfl, .inr ha, ?_, k⟩
    have h1 := sum_le t 1000 hz
    have h2 : (" " : Str).length = 1 := by decide +kernel
    rw [h2]
    omega
theorem ok_ends_well (T : Txt K mg w) : FnOk P w K mg base CX0 1 T.f_ends_well T.fd_ends_well ["words"] (sp_ws K endsB) := by
  refine T.F_ends_well.ok sc_ends_well (fun vs H Q E h => ?_) (fun cdv A outer s H vs Q E hr h => ?_)
  · obtain ⟨l, ws, rfl, _⟩ := h
    rfl
  · obtain ⟨l, ws, rfl, hl, h1, h12, k⟩ := h
    refine ⟨_, (pss_one (ps_ret (pe_cmpR (op_eqD hr.units) (pe_lc (own := [("at", 1), ("word", 2)]) (g := gTup K 2 (gCons (gName 1) (gCons (gName 2) gNil))) rfl sc_ends_well.nd (pi_enum rfl T.z_enumerate (pa_cons (pv 0) pa_nil)) (blkOk_by (own := [("at", 1), ("word", 2)]) (N := ["words", "at", "word"]) (sc := defScope s_ends_well) (by decide +kernel)) (fun _ _ _ _ _ => (pg_tup rfl (pgs_cons (pg_name (i := 1) sc_ends_well.nd rfl (Or.inl rfl)) (pgs_cons (pg_name (i := 2) sc_ends_well.nd rfl (Or.inl rfl)) pgs_nil)))) (fun _ _ _ _ _ => (pts_one (pt_cmpR (r := rIn K false) op_in_seq (pv 2) (pe_tup (pa_cons pe_str (pa_cons pe_str pa_nil))) (by rfl)))) (fun _ _ _ _ _ => (pv 1))) (pe_lst (pa_cons (pe_op op_sub (pe_callB (id := "len") call_len (by rfl) T.z_len (by decide +kernel) (pa_cons (pv 0) pa_nil)) pe_int) pa_nil)) (nomark _)))), ?_⟩
    refine ⟨_, rfl, l, _, rfl, hl, fun D hD => ?_⟩
    refine lc_accE walk_enum hD (fun H' s' => s'.seq hl) (fun i => ((poss (fun w => decide (w ∈ (["end", "close"] : List Str))) ws i).map Int.ofNat).map V.int) rfl (fun i hi => ?_) ?_ ?_
    · rw [List.length_map, List.length_map]
      have := poss_len (fun w => decide (w ∈ (["end", "close"] : List Str))) ws i
      rw [List.length_map] at hi
      exact Nat.lt_of_le_of_lt this (Nat.lt_of_lt_of_le (show i < 100 by omega) (by decide))
    · rintro i T' x y H2 hi ex ey s1 hT R S r1 r2
      cases ex
      rw [List.getElem?_map] at ey
      obtain ⟨w0, hw0, rfl⟩ := Option.map_eq_some_iff.mp ey
      have hp : pAt (fun w => decide (w ∈ (["end", "close"] : List Str))) ws i = decide (w0 ∈ (["end", "close"] : List Str)) := by
        unfold pAt
        rw [hw0]
      have step := poss_step (fun w => decide (w ∈ (["end", "close"] : List Str))) ws i
      rw [hp] at step
      refine ⟨T', _, rfl, SqT.of hT, rfl, _, _, rfl, _, _, rfl, rfl, ?_⟩
      refine ⟨rfl, _, rfl, (by show 2 ≤ sizeLine; decide), fun t ht => ?_⟩
      have s2 := same_new (o := .tup [.str "end", .str "close"]) ht
      refine ⟨t, (["end", "close"] : List Str).map V.str, rfl, .inr (SqT.of upd_same), rfl, flat_strs _, _, rfl, ?_⟩
      rw [in_strs]
      cases eq : decide (w0 ∈ (["end", "close"] : List Str)) with
      | false =>
        rw [eq, if_neg (by decide)] at step
        exact iteFe rfl (r2 _ (by rw [step]) s2)
      | true =>
        rw [eq, if_pos rfl] at step
        exact iteTe rfl ⟨_, rfl, r1 _ _ (by rw [step, List.map_append, List.map_append]; rfl) s2⟩
    · intro H2 s1 hl2
      have hl2 : H2 D = some (.lst (((poss (fun w => decide (w ∈ (["end", "close"] : List Str))) ws (ws.map V.str).length).map Int.ofNat).map V.int)) := hl2
      rw [List.length_map] at hl2
      refine ⟨_, rfl, .ref l, _, rfl, .inl ⟨_, s1.seq hl, rfl⟩, _, _, rfl, rfl, (by show 1 ≤ sizeLine; decide), fun q hq => ?_⟩
      have s2 := same_new (o := .lst [.int (((ws.map V.str).length : Int) - 1)]) hq
      refine ⟨_, _, .lst (SqL.of (s2 _ _ hl2)) (dpAll_ints _), .lst (SqL.of upd_same) (dpAll_ints [((ws.map V.str).length : Int) - 1]), ints_shaped _, ints_shaped [_], ?_⟩
      have k := k _ (s1.trans s2)
      have e : PyData.eqv (.list (((poss (fun w => decide (w ∈ (["end", "close"] : List Str))) ws ws.length).map Int.ofNat).map .int)) (.list (([((ws.map V.str).length : Int) - 1]).map .int)) = endsB ws := by
        rw [eqv_ints, List.length_map]
        unfold endsB
        rw [Bool.eq_iff_iff, decide_eq_true_iff, decide_eq_true_iff]
        constructor
        · intro h
          have h2 : (poss (fun w => decide (w ∈ (["end", "close"] : List Str))) ws ws.length).map Int.ofNat = ([ws.length - 1]).map Int.ofNat := by
            rw [h]
            simp
            omega
          exact List.map_inj_right (fun a b q => Int.ofNat.inj q) |>.mp h2
        · intro h
          rw [h]
          simp
          omega
      rw [e]
      exact k
theorem ok_has_needed (T : Txt K mg w) : FnOk P w K mg base CX0 1 T.f_has_needed T.fd_has_needed ["words", "kind"] (sp_has K) := by
  refine T.F_has_needed.ok sc_has_needed (fun vs H Q E h => ?_) (fun cdv A outer s H vs Q E hr h => ?_)
  · obtain ⟨l, ws, kd, rfl, _⟩ := h
    rfl
  · obtain ⟨l, ws, kd, rfl, hk, hl, h1, h12, k⟩ := h
    refine ⟨_, (pss_cons (ps_if (pt_not (pt_val (pe_callB (id := "all") (cr_all rfl) (by rfl) T.z_all (by decide +kernel) (pa_cons (pe_lc (own := [("group", 3)]) (g := gName 3) (tt := tYes) rfl sc_has_needed.nd (pi_tup (pe_ix ix_kdict (pe_glob (v := .ref T.A_NEEDED) rfl T.c_NEEDED rfl) (pv 1) (fun _ _ => rfl))) (blkOk_by (own := [("group", 3)]) (N := ["words", "kind", "word", "group"]) (sc := defScope s_has_needed) (by decide +kernel)) (fun _ _ _ _ _ => (pg_name (i := 3) sc_has_needed.nd rfl (Or.inr rfl))) (fun _ _ _ _ _ => pts_nil) (fun _ _ _ _ _ => (pe_cmpR op_eq (pe_callB (id := "len") (r := fun xs H Q => ∃ p ys, xs = [.ref p] ∧ (SqL K H p ys ∨ SqT K H p ys) ∧ Q (.int ys.length) H) call_len_seq (by rfl) T.z_len (by decide +kernel) (pa_cons (pe_lc (own := [("word", 2)]) (g := gName 2) rfl sc_has_needed.nd (show PI _ _ _ (iList K _) from (pi_list (pv 0))) (blkOk_by (own := [("word", 2)]) (N := ["words", "kind", "word", "group"]) (by kernel_rfl)) (fun _ _ _ _ _ => (pg_name (i := 2) sc_has_needed.nd rfl (Or.inl rfl))) (fun _ _ _ _ _ => (pts_one (pt_cmpR (r := rIn K false) op_in_seq (pv 2) (pv 3) (by rfl)))) (fun _ _ _ _ _ => (pv 2))) pa_nil)) pe_int (nomark _)))) pa_nil)))) (pss_one (ps_ret pe_bl)) pss_nil)
        (pss_cons (ps_if (PW.pt (pw_and (pt_cmpR op_in_seq pe_str (pv 0) (by rfl)) (pw_and1 (pt_cmpR op_notIn_seq pe_str (pv 0) (by rfl))))) (pss_one (ps_ret pe_bl)) pss_nil)
        (pss_one (ps_ret (pe_callB (id := "all") (cr_all rfl) (by rfl) T.z_all (by decide +kernel) (pa_cons (pe_lc (own := [("word", 2)]) (g := gName 2) (tt := tYes) rfl sc_has_needed.nd (pi_tup (pe_glob (v := .ref T.A_AT_MOST_ONCE) rfl T.c_AT_MOST_ONCE rfl)) (blkOk_by (own := [("word", 2)]) (N := ["words", "kind", "word", "group"]) (sc := defScope s_has_needed) (by decide +kernel)) (fun _ _ _ _ _ => (pg_name (i := 2) sc_has_needed.nd rfl (Or.inl rfl))) (fun _ _ _ _ _ => pts_nil) (fun _ _ _ _ _ => (pe_cmpR op_le (show PE _ _ (tBM K "list" (rCntS K) _ _) from (pe_bm PySem.F.plainAttrs_list PySem.F.slot_list_count PySem.F.type_list_count mt_countS (pv 0) (pa_cons (pv 2) pa_nil))) pe_int (nomark _)))) pa_nil)))))), ?_⟩
    obtain ⟨u, ku, du⟩ := nsD_ok T.l_NEEDED T.d_NEEDED (needed_in hk)
    obtain ⟨a, xs, rfl, hT, hD⟩ := dp_tupT (du H)
    have hlen := dpAll_len hD
    rw [List.length_map] at hlen
    have n3 : (neededT kd).length ≤ 3 := by
      have all : ∀ k ∈ kindsL, (neededT k).length ≤ 3 := by decide +kernel
      exact all kd hk
    refine ⟨_, rfl, _, _, .ref a, rfl, rfl, ku, a, rfl, ⟨_, hT⟩, fun D hD1 => ?_⟩
    refine lc_acc walk_tup hD1 (fun H' s' => same_t s' hT) (fun i => ((neededT kd).take i).map fun g => V.bl (decide (cntG g ws = 1))) rfl (fun i hi => ?_) ?_ ?_
    · rw [List.length_map, List.length_take]
      exact Nat.lt_of_le_of_lt (Nat.le_trans (Nat.min_le_right _ _) n3) (by decide)
    · rintro i x H2 hi hx s1 R S r1 r2
      obtain ⟨d, hd, vx⟩ := dpAll_get hD hx
      rw [List.getElem?_map] at hd
      obtain ⟨g, hg, rfl⟩ := Option.map_eq_some_iff.mp hd
      obtain ⟨b, rfl, hb⟩ := dp_strsT (dp_mono s1 vx)
      refine ⟨rfl, tyes ⟨_, rfl, l, rfl, ⟨_, s1.seq hl⟩, fun D2 hD2 => ?_⟩⟩
      refine lc_acc walk_list hD2 (fun H' s' => (s1.trans s').seq hl) (fun j => ((ws.take j).filter fun w => decide (w ∈ g)).map V.str) rfl (fun j hj => ?_) ?_ ?_
      · rw [List.length_map]
        refine Nat.lt_of_le_of_lt (List.length_filter_le _ _) ?_
        rw [List.length_take]
        exact Nat.lt_of_le_of_lt (Nat.le_trans (Nat.min_le_right _ _) h12) (by decide)
      · rintro j y H3 hj hy s2 R2 S2 q1 q2
        rw [List.getElem?_map] at hy
        obtain ⟨w0, hw0, rfl⟩ := Option.map_eq_some_iff.mp hy
        refine ⟨rfl, _, rfl, _, rfl, b, _, rfl, .inr (same_t s2 hb), rfl, flat_strs g, _, rfl, ?_⟩
        rw [in_strs]
        cases eq : decide (w0 ∈ g) with
        | false => exact iteFe rfl (q2 _ (by rw [List.take_add_one, hw0]; simp [eq]) (Same.refl _))
        | true => exact iteTe rfl ⟨_, rfl, q1 _ _ (by rw [List.take_add_one, hw0]; simp [eq]) (Same.refl _)⟩
      · intro H3 s2 hl3
        have hl3 : H3 D2 = some (.lst (((ws.take (ws.map V.str).length).filter fun w => decide (w ∈ g)).map V.str)) := hl3
        rw [List.length_map, List.take_length] at hl3
        refine ⟨D2, _, rfl, .inl (SqL.of hl3), rfl, r1 _ _ ?_ s2⟩
        rw [List.take_add_one, hg, List.length_map]
        show List.map _ (_ ++ [g]) = _
        rw [List.map_append]
        congr 1
        show [V.bl (decide (cntG g ws = 1))] = [V.bl (decide (V.int ((List.filter (fun w => decide (w ∈ g)) ws).length : Nat) = V.int 1))]
        rw [dec_int]
        congr 2
        show decide (cntG g ws = 1) = (((cntG g ws : Nat) : Int) == 1)
        rw [Bool.eq_iff_iff, decide_eq_true_iff, beq_iff_eq]
        omega
    · intro H2 s1 hl2
      have hl2 : H2 D = some (.lst (((neededT kd).take xs.length).map fun g => V.bl (decide (cntG g ws = 1)))) := hl2
      rw [hlen, List.take_length] at hl2
      refine ⟨D, (neededT kd).map fun g => decide (cntG g ws = 1), rfl, SqL.of (by rw [hl2, List.map_map]; rfl), _, rfl, ?_⟩
      have k : ∀ H', Same H2 H' → Q (.bl (hasB kd ws)) H' := fun H' s' => k H' (s1.trans s')
      have hl := s1.seq hl
      have eA : (((neededT kd).map fun g => decide (cntG g ws = 1)).all fun b => b) = (neededT kd).all fun g => decide (cntG g ws = 1) := by rw [List.all_map]; rfl
      show if (!(((neededT kd).map fun g => decide (cntG g ws = 1)).all fun b => b)) = true then _ else _
      rw [eA]
      unfold hasB at k
      cases e1 : (neededT kd).all fun g => decide (cntG g ws = 1) with
      | false =>
        rw [e1] at k
        exact iteT (k _ (Same.refl _))
      | true =>
        rw [e1] at k
        refine iteF ⟨_, rfl, l, _, rfl, .inl hl, rfl, flat_strs ws, _, rfl, ?_⟩
        rw [in_strs]
        have hTo : SqT K H2 T.A_AT_MOST_ONCE (onceT.map V.str) := by
          obtain ⟨uo, ro, qo⟩ := datK_ok 4 T.d_AT_MOST_ONCE
          obtain rfl := relref ro
          have q := qo H2
          rw [once_is] at q
          obtain ⟨b, e, hb⟩ := dp_strsT q
          cases e
          exact hb
        cases e2 : decide (("wait" : Str) ∈ ws) with
        | false =>
          rw [e2] at k
          refine iteFe rfl (iteF ?_)
          refine ⟨T.A_AT_MOST_ONCE, rfl, ⟨_, hTo⟩, fun D3 hD3 => ?_⟩
          refine lc_acc walk_tup hD3 (fun H' s' => same_t s' hTo) (fun i => (onceT.take i).map fun w => V.bl (decide ((ws.filter fun x => decide (x = w)).length ≤ 1))) rfl (fun i hi => ?_) ?_ ?_
          · rw [List.length_map, List.length_take]
            exact Nat.lt_of_le_of_lt (Nat.min_le_right _ _) (by decide)
          · rintro i x H3 hi hx s2 R S r1 r2
            rw [List.getElem?_map] at hx
            obtain ⟨w0, hw0, rfl⟩ := Option.map_eq_some_iff.mp hx
            refine ⟨rfl, tyes ⟨_, rfl, .inl ⟨rfl, _, s2.seq hl⟩, _, rfl, l, ws, w0, rfl, rfl, s2.seq hl, _, _, rfl, rfl, r1 _ _ ?_ (Same.refl _)⟩⟩
            rw [List.take_add_one, hw0]
            show List.map _ (_ ++ [w0]) = _
            rw [List.map_append]
            congr 1
            show [V.bl (decide ((ws.filter fun x => decide (x = w0)).length ≤ 1))] = [V.bl (decide (((ws.filter fun x => decide (x = w0)).length : Nat) ≤ (1 : Int)))]
            congr 2
            rw [Bool.eq_iff_iff, decide_eq_true_iff, decide_eq_true_iff]
            omega
          · intro H3 s2 hl3
            refine ⟨D3, onceT.map fun w => decide ((ws.filter fun x => decide (x = w)).length ≤ 1), rfl, SqL.of ?_, ?_⟩
            · rw [hl3, List.map_map]
              rfl
            · have k := k _ s2
              rw [List.all_map]
              exact k
        | true =>
          rw [e2] at k
          refine iteTe rfl ⟨_, rfl, l, _, rfl, .inl hl, rfl, flat_strs ws, _, rfl, ?_⟩
          rw [in_strs]
          cases e3 : decide (("switch" : Str) ∈ ws) with
          | false =>
            rw [e3] at k
            exact iteTe rfl (k _ (Same.refl _))
          | true =>
            rw [e3] at k
            refine iteFe rfl ?_
            refine ⟨T.A_AT_MOST_ONCE, rfl, ⟨_, hTo⟩, fun D3 hD3 => ?_⟩
            refine lc_acc walk_tup hD3 (fun H' s' => same_t s' hTo) (fun i => (onceT.take i).map fun w => V.bl (decide ((ws.filter fun x => decide (x = w)).length ≤ 1))) rfl (fun i hi => ?_) ?_ ?_
            · rw [List.length_map, List.length_take]
              exact Nat.lt_of_le_of_lt (Nat.min_le_right _ _) (by decide)
            · rintro i x H3 hi hx s2 R S r1 r2
              rw [List.getElem?_map] at hx
              obtain ⟨w0, hw0, rfl⟩ := Option.map_eq_some_iff.mp hx
              refine ⟨rfl, tyes ⟨_, rfl, .inl ⟨rfl, _, s2.seq hl⟩, _, rfl, l, ws, w0, rfl, rfl, s2.seq hl, _, _, rfl, rfl, r1 _ _ ?_ (Same.refl _)⟩⟩
              rw [List.take_add_one, hw0]
              show List.map _ (_ ++ [w0]) = _
              rw [List.map_append]
              congr 1
              show [V.bl (decide ((ws.filter fun x => decide (x = w0)).length ≤ 1))] = [V.bl (decide (((ws.filter fun x => decide (x = w0)).length : Nat) ≤ (1 : Int)))]
              congr 2
              rw [Bool.eq_iff_iff, decide_eq_true_iff, decide_eq_true_iff]
              omega
            · intro H3 s2 hl3
              refine ⟨D3, onceT.map fun w => decide ((ws.filter fun x => decide (x = w)).length ≤ 1), rfl, SqL.of ?_, ?_⟩
              · rw [hl3, List.map_map]
                rfl
              · have k := k _ s2
                rw [List.all_map]
                exact k
theorem ok_comes_before (T : Txt K mg w) : FnOk P w K mg base CX0 1 T.f_comes_before T.fd_comes_before ["words", "earlier", "later"] (sp_before K) := by
  refine T.F_comes_before.ok sc_comes_before (fun vs H Q E h => ?_) (fun cdv A outer s H vs Q E hr h => ?_)
  · obtain ⟨l, e, f, ws, E', L', rfl, _⟩ := h
    rfl
  · obtain ⟨l, e, f, ws, E', L', rfl, hl, he, hf, h1, h12, k⟩ := h
    refine ⟨_, (C8.pss_cut (ps_set (i := 3) sc_comes_before.nd rfl (Or.inl rfl) (pe_callBK (id := "max") (ks := ["default"]) (cr_maxD rfl hr.units) (by rfl) T.z_max (by decide +kernel) (pa_cons (pe_lc (own := [("at", 5), ("word", 6)]) (g := gTup K 2 (gCons (gName 5) (gCons (gName 6) gNil))) rfl sc_comes_before.nd (pi_enum rfl T.z_enumerate (pa_cons (pv 0) pa_nil)) (blkOk_by (own := [("at", 5), ("word", 6)]) (N := ["words", "earlier", "later", "last", "first", "at", "word"]) (sc := defScope s_comes_before) (by decide +kernel)) (fun _ _ _ _ _ => (pg_tup rfl (pgs_cons (pg_name (i := 5) sc_comes_before.nd rfl (Or.inl rfl)) (pgs_cons (pg_name (i := 6) sc_comes_before.nd rfl (Or.inl rfl)) pgs_nil)))) (fun _ _ _ _ _ => (pts_one (pt_cmpR (r := rIn K false) op_in_seq (pv 6) (pv 1) (by rfl)))) (fun _ _ _ _ _ => (pv 5))) pa_nil) (pk_cons (pe_un un_neg pe_int) pk_nil)))
        (C8.pss_cut (ps_set (i := 4) sc_comes_before.nd rfl (Or.inl rfl) (pe_callBK (id := "min") (ks := ["default"]) (cr_minD rfl hr.units) (by rfl) T.z_min (by decide +kernel) (pa_cons (pe_lc (own := [("at", 5), ("word", 6)]) (g := gTup K 2 (gCons (gName 5) (gCons (gName 6) gNil))) rfl sc_comes_before.nd (pi_enum rfl T.z_enumerate (pa_cons (pv 0) pa_nil)) (blkOk_by (own := [("at", 5), ("word", 6)]) (N := ["words", "earlier", "later", "last", "first", "at", "word"]) (sc := defScope s_comes_before) (by decide +kernel)) (fun _ _ _ _ _ => (pg_tup rfl (pgs_cons (pg_name (i := 5) sc_comes_before.nd rfl (Or.inl rfl)) (pgs_cons (pg_name (i := 6) sc_comes_before.nd rfl (Or.inl rfl)) pgs_nil)))) (fun _ _ _ _ _ => (pts_one (pt_cmpR (r := rIn K false) op_in_seq (pv 6) (pv 2) (by rfl)))) (fun _ _ _ _ _ => (pv 5))) pa_nil) (pk_cons (pe_callB (id := "len") call_len_seq (by rfl) T.z_len (by decide +kernel) (pa_cons (pv 0) pa_nil)) pk_nil)))
        (pss_one (ps_ret (pe_cmpR op_lt (pv 3) (pv 4) (nomark _)))))), ?_⟩
    have pE : ∀ i ∈ poss (fun w => decide (w ∈ E')) ws ws.length, i < ws.length := fun i hi => by
      obtain ⟨x, hx, _⟩ := mem_poss.mp hi
      exact (List.getElem?_eq_some_iff.mp hx).1
    have pL : ∀ i ∈ poss (fun w => decide (w ∈ L')) ws ws.length, i < ws.length := fun i hi => by
      obtain ⟨x, hx, _⟩ := mem_poss.mp hi
      exact (List.getElem?_eq_some_iff.mp hx).1
    refine ⟨fun σ H' => ∃ (z : Int) (v5 v6 : Option V), σ = [some (.ref l), some (.ref e), some (.ref f), some (.int z), none, v5, v6] ∧ Same H H' ∧ ((poss (fun w => decide (w ∈ E')) ws ws.length = [] ∧ z = -1) ∨ (∃ i ∈ poss (fun w => decide (w ∈ E')) ws ws.length, z = (i : Int) ∧ ∀ n ∈ poss (fun w => decide (w ∈ E')) ws ws.length, n ≤ i)), ?_, ?_⟩
    · refine ⟨_, rfl, l, _, rfl, hl, fun D hD => ?_⟩
      refine lc_accE walk_enum hD (fun H' s' => s'.seq hl) (fun i => ((poss (fun w => decide (w ∈ E')) ws i).map Int.ofNat).map V.int) rfl (fun i hi => ?_) ?_ ?_
      · rw [List.length_map, List.length_map]
        have := poss_len (fun w => decide (w ∈ E')) ws i
        rw [List.length_map] at hi
        exact Nat.lt_of_le_of_lt this (Nat.lt_of_lt_of_le (show i < 100 by omega) (by decide))
      · rintro i T' x y H2 hi ex ey s1 hT R S r1 r2
        cases ex
        rw [List.getElem?_map] at ey
        obtain ⟨w0, hw0, rfl⟩ := Option.map_eq_some_iff.mp ey
        have hp : pAt (fun w => decide (w ∈ E')) ws i = decide (w0 ∈ E') := by
          unfold pAt
          rw [hw0]
        have step := poss_step (fun w => decide (w ∈ E')) ws i
        rw [hp] at step
        refine ⟨T', _, rfl, SqT.of hT, rfl, _, _, rfl, _, _, rfl, rfl, ?_⟩
        refine ⟨rfl, _, rfl, _, rfl, e, _, rfl, .inr (same_t s1 he), rfl, flat_strs _, _, rfl, ?_⟩
        rw [in_strs]
        cases eq : decide (w0 ∈ E') with
        | false =>
          rw [eq, if_neg (by decide)] at step
          exact iteFe rfl (r2 _ (by rw [step]) (Same.refl _))
        | true =>
          rw [eq, if_pos rfl] at step
          exact iteTe rfl ⟨_, rfl, r1 _ _ (by rw [step, List.map_append, List.map_append]; rfl) (Same.refl _)⟩
      intro H2 s1 hl2
      have hl2 : H2 D = some (.lst (((poss (fun w => decide (w ∈ E')) ws (ws.map V.str).length).map Int.ofNat).map V.int)) := hl2
      rw [List.length_map] at hl2
      refine ⟨_, rfl, D, _, .int (-1), rfl, rfl, SqL.of hl2, fun e0 => ⟨-1, _, _, rfl, s1, .inl ⟨List.map_eq_nil_iff.mp e0, rfl⟩⟩, fun m hm hx => ?_⟩
      obtain ⟨i, hi, rfl⟩ := List.mem_map.mp hm
      refine ⟨_, _, _, rfl, s1, .inr ⟨i, hi, rfl, fun n hn => ?_⟩⟩
      have := hx (Int.ofNat n) (List.mem_map.mpr ⟨n, hn, rfl⟩)
      exact Int.ofNat_le.mp this
    rintro σ H' ⟨z, v5, v6, rfl, sH, hz⟩
    have hl := sH.seq hl
    have hf := same_t sH hf
    have k : ∀ H'', Same H' H'' → Q (.bl (befB ws E' L')) H'' := fun H'' s' => k H'' (sH.trans s')
    refine ⟨fun σ H'' => ∃ (y : Int) (v5 v6 : Option V), σ = [some (.ref l), some (.ref e), some (.ref f), some (.int z), some (.int y), v5, v6] ∧ Same H' H'' ∧ ((poss (fun w => decide (w ∈ L')) ws ws.length = [] ∧ y = ws.length) ∨ (∃ i ∈ poss (fun w => decide (w ∈ L')) ws ws.length, y = (i : Int) ∧ ∀ n ∈ poss (fun w => decide (w ∈ L')) ws ws.length, i ≤ n)), ?_, ?_⟩
    · refine ⟨_, rfl, l, _, rfl, hl, fun D hD => ?_⟩
      refine lc_accE walk_enum hD (fun H' s' => s'.seq hl) (fun i => ((poss (fun w => decide (w ∈ L')) ws i).map Int.ofNat).map V.int) rfl (fun i hi => ?_) ?_ ?_
      · rw [List.length_map, List.length_map]
        have := poss_len (fun w => decide (w ∈ L')) ws i
        rw [List.length_map] at hi
        exact Nat.lt_of_le_of_lt this (Nat.lt_of_lt_of_le (show i < 100 by omega) (by decide))
      · rintro i T' x y H2 hi ex ey s1 hT R S r1 r2
        cases ex
        rw [List.getElem?_map] at ey
        obtain ⟨w0, hw0, rfl⟩ := Option.map_eq_some_iff.mp ey
        have hp : pAt (fun w => decide (w ∈ L')) ws i = decide (w0 ∈ L') := by
          unfold pAt
          rw [hw0]
        have step := poss_step (fun w => decide (w ∈ L')) ws i
        rw [hp] at step
        refine ⟨T', _, rfl, SqT.of hT, rfl, _, _, rfl, _, _, rfl, rfl, ?_⟩
        refine ⟨rfl, _, rfl, _, rfl, f, _, rfl, .inr (same_t s1 hf), rfl, flat_strs _, _, rfl, ?_⟩
        rw [in_strs]
        cases eq : decide (w0 ∈ L') with
        | false =>
          rw [eq, if_neg (by decide)] at step
          exact iteFe rfl (r2 _ (by rw [step]) (Same.refl _))
        | true =>
          rw [eq, if_pos rfl] at step
          exact iteTe rfl ⟨_, rfl, r1 _ _ (by rw [step, List.map_append, List.map_append]; rfl) (Same.refl _)⟩
      intro H2 s1 hl2
      have hl2 : H2 D = some (.lst (((poss (fun w => decide (w ∈ L')) ws (ws.map V.str).length).map Int.ofNat).map V.int)) := hl2
      rw [List.length_map] at hl2
      refine ⟨_, rfl, l, _, rfl, .inl (s1.seq hl), D, _, .int ((ws.map V.str).length : Nat), rfl, rfl, SqL.of hl2, fun e0 => ⟨_, _, _, rfl, s1, .inl ⟨List.map_eq_nil_iff.mp e0, by rw [List.length_map]⟩⟩, fun m hm hx => ?_⟩
      obtain ⟨i, hi, rfl⟩ := List.mem_map.mp hm
      refine ⟨_, _, _, rfl, s1, .inr ⟨i, hi, rfl, fun n hn => ?_⟩⟩
      have := hx (Int.ofNat n) (List.mem_map.mpr ⟨n, hn, rfl⟩)
      exact Int.ofNat_le.mp this
    rintro σ H'' ⟨y, v5, v6, rfl, s2, hy⟩
    refine ⟨_, rfl, _, rfl, _, _, rfl, rfl, ?_⟩
    have ee : decide (z < y) = befB ws E' L' := by
      unfold befB
      rw [Bool.eq_iff_iff, decide_eq_true_iff, decide_eq_true_iff]
      constructor
      · intro h i hi j hj
        rcases hz with ⟨e1, _⟩ | ⟨a, ha, rfl, hmax⟩
        · rw [e1] at hi
          cases hi
        · rcases hy with ⟨e2, _⟩ | ⟨b, hb, rfl, hmin⟩
          · rw [e2] at hj
            cases hj
          · have := hmax i hi
            have := hmin j hj
            omega
      · intro h
        rcases hz with ⟨_, rfl⟩ | ⟨a, ha, rfl, _⟩
        · rcases hy with ⟨_, rfl⟩ | ⟨b, hb, rfl, _⟩
          · omega
          · omega
        · have := pE a ha
          rcases hy with ⟨_, rfl⟩ | ⟨b, hb, rfl, _⟩
          · omega
          · have := h a ha b hb
            omega
    show Q (.bl (decide (z < y))) H''
    rw [ee]
    exact k _ s2
theorem ok_is_in_order (T : Txt K mg w) : FnOk P w K mg base CX0 2 T.f_is_in_order T.fd_is_in_order ["words"] (sp_ws K ordB) := by
  refine T.F_is_in_order.ok sc_is_in_order (fun vs H Q E h => ?_) (fun cdv A outer s H vs Q E hr h => ?_)
  · obtain ⟨l, ws, rfl, _⟩ := h
    rfl
  · obtain ⟨l, ws, rfl, hl, h1, h12, k⟩ := h
    refine ⟨_, (pss_one (ps_ret (pe_callB (id := "all") (cr_all rfl) (by rfl) T.z_all (by decide +kernel) (pa_cons (pe_lc (own := [("earlier", 1), ("later", 2)]) (g := gTup K 2 (gCons (gName 1) (gCons (gName 2) gNil))) (tt := tYes) rfl sc_is_in_order.nd (pi_tup (pe_glob (v := .ref T.A_ORDERS) rfl T.c_ORDERS rfl)) (blkOk_by (own := [("earlier", 1), ("later", 2)]) (N := ["words", "earlier", "later"]) (sc := defScope s_is_in_order) (by decide +kernel)) (fun _ _ _ _ _ => (pg_tup rfl (pgs_cons (pg_name (i := 1) sc_is_in_order.nd rfl (Or.inl rfl)) (pgs_cons (pg_name (i := 2) sc_is_in_order.nd rfl (Or.inl rfl)) pgs_nil)))) (fun _ _ _ _ _ => pts_nil) (fun _ _ _ _ _ => (pe_call (ok_comes_before T) hr rfl T.m_comes_before T.F_comes_before.kp T.b_comes_before .nil pass0 (pa_cons (pv 0) (pa_cons (pv 1) (pa_cons (pv 2) pa_nil)))))) pa_nil)))), ?_⟩
    obtain ⟨a, xs, ea, hT, hD⟩ : ∃ a xs, V.ref T.A_ORDERS = .ref a ∧ SqT K H a xs ∧ DpAll K H xs (ordersT.map fun p => .tuple [strsD p.1, strsD p.2]) := by
      obtain ⟨uo, ro, qo⟩ := datK_ok 4 T.d_ORDERS
      obtain rfl := relref ro
      have q := qo H
      rw [orders_is] at q
      exact dp_tupT q
    cases ea
    have hlen := dpAll_len hD
    rw [List.length_map] at hlen
    refine ⟨T.A_ORDERS, rfl, ⟨_, hT⟩, fun D hD1 => ?_⟩
    refine lc_acc walk_tup hD1 (fun H' s' => same_t s' hT) (fun i => (ordersT.take i).map fun p => V.bl (befB ws p.1 p.2)) rfl (fun i hi => ?_) ?_ ?_
    · rw [List.length_map, List.length_take]
      exact Nat.lt_of_le_of_lt (Nat.min_le_right _ _) (by decide)
    · rintro i x H2 hi hx s1 R S r1 r2
      obtain ⟨d, hd, vx⟩ := dpAll_get hD hx
      rw [List.getElem?_map] at hd
      obtain ⟨g, hg, rfl⟩ := Option.map_eq_some_iff.mp hd
      obtain ⟨b, ys, rfl, hb, hys⟩ := dp_tupT (dp_mono s1 vx)
      obtain ⟨y1, y2, d1, d2, rfl, e1, v1, v2⟩ := dp_two hys (dpAll_len hys)
      injection e1 with e1 e2
      injection e2 with e2 _
      subst e1 e2
      obtain ⟨b1, rfl, h1'⟩ := dp_strsT v1
      obtain ⟨b2, rfl, h2'⟩ := dp_strsT v2
      refine ⟨b, _, rfl, hb, rfl, _, _, rfl, _, _, rfl, rfl, rfl, tyes ⟨_, rfl, _, rfl, _, rfl, l, b1, b2, ws, g.1, g.2, rfl, s1.seq hl, h1', h2', h1, h12, fun H3 s3 => r1 _ _ ?_ s3⟩⟩
      rw [List.take_add_one, hg]
      show List.map _ (_ ++ [g]) = _
      rw [List.map_append]
      rfl
    · intro H2 s1 hl2
      have hl2 : H2 D = some (.lst ((ordersT.take xs.length).map fun p => V.bl (befB ws p.1 p.2))) := hl2
      rw [hlen, List.take_length] at hl2
      refine ⟨D, ordersT.map fun p => befB ws p.1 p.2, rfl, SqL.of (by rw [hl2, List.map_map]; rfl), ?_⟩
      rw [List.all_map]
      exact k _ s1
theorem ok_is_program (T : Txt K mg w) : FnOk P w K mg base (L2.CX P w) 5 T.f_is_program T.fd_is_program ["value", "kind"] (sp_is_program K T.C_NoProgram) := by
  refine T.F_is_program.okX sc_is_program (fun vs H Q E h => ?_) (fun cdv A outer s H vs Q E hr h => ?_)
  · obtain ⟨x, y, o, d, rfl, _⟩ := h
    rfl
  · obtain ⟨x, y, o, d, rfl, hv, hok, hd, sd, k1, k2⟩ := h
    refine ⟨_, (pss_cons (ps_expr (pe_call (ok_require_kind T) (hr.mono (by decide)) rfl T.m_require_kind T.F_require_kind.kp T.b_require_kind .nil (passC (takes_of rfl rfl rfl rfl)) (pa_cons (pv 1) pa_nil)))
        (pss_cons (ps_if (PW.pt (pw_or (pt_not (pt_val (pe_callB (id := "isinstance") call_isi (by rfl) T.z_isinstance (by decide +kernel) (pa_cons (pv 0) (pa_cons (pe_bltn (v := .ty "list") (u := .type "list") (by rfl) T.z_list (by decide +kernel) rfl) pa_nil))))) (pw_or1 (pt_not (pt_chain op_le op_le pe_int (pe_callB (id := "len") call_len_seq (by rfl) T.z_len (by decide +kernel) (pa_cons (pv 0) pa_nil)) (pe_glob (v := .int 12) rfl T.c_MOST_STEPS ⟨_, rfl⟩)))))) (pss_one (ps_ret pe_bl)) pss_nil)
        (pss_cons (ps_if (pt_not (pt_val (pe_callB (id := "all") (cr_all rfl) (by rfl) T.z_all (by decide +kernel) (pa_cons (pe_lc (own := [("step", 3)]) (g := gName 3) (tt := tYes) rfl sc_is_program.nd (pi_list (pv 0)) (blkOk_by (own := [("step", 3)]) (N := ["value", "kind", "words", "step"]) (sc := defScope s_is_program) (by decide +kernel)) (fun _ _ _ _ _ => (pg_name (i := 3) sc_is_program.nd rfl (Or.inl rfl))) (fun _ _ _ _ _ => pts_nil) (fun _ _ _ _ _ => (pe_call (ok_is_step T) hr rfl T.m_is_step T.F_is_step.kp T.b_is_step .nil passL (pa_cons (pv 3) (pa_cons (pv 1) pa_nil))))) pa_nil)))) (pss_one (ps_ret pe_bl)) pss_nil)
        (pss_cons (ps_setLc (i := 2) (own := [("step", 3)]) (g := gName 3) (tt := tYes) rfl sc_is_program.nd rfl rfl (sw_true rfl rfl rfl (by decide +kernel)) (pi_list (pv 0)) (blkOk_by (own := [("step", 3)]) (N := ["value", "kind", "words", "step"]) (sc := defScope s_is_program) (by decide +kernel)) (fun _ _ _ _ _ => (pg_name (i := 3) sc_is_program.nd rfl (Or.inl rfl))) (fun _ _ _ _ _ => pts_nil) (fun _ _ _ _ _ => (pe_call (ok_step_text T) (hr.mono (by decide)) rfl T.m_step_text T.F_step_text.kp T.b_step_text .nil pass0 (pa_cons (pe_slice (r := rSlA K) sl_tupA (pv 3) po_none (po_some pe_int)) pa_nil))))
        (pss_one (ps_ret (pe_and (pe_call (ok_ends_well T) (hr.mono (by decide)) rfl T.m_ends_well T.F_ends_well.kp T.b_ends_well .nil pass0 (pa_cons (pv 2) pa_nil)) (pe_and (pe_call (ok_has_needed T) (hr.mono (by decide)) rfl T.m_has_needed T.F_has_needed.kp T.b_has_needed .nil pass0 (pa_cons (pv 2) (pa_cons (pv 1) pa_nil))) (pe_one (pe_call (ok_is_in_order T) (hr.mono (by decide)) rfl T.m_is_in_order T.F_is_in_order.kp T.b_is_in_order .nil pass0 (pa_cons (pv 2) pa_nil))))))))))), ?_⟩
    refine ⟨_, rfl, y, d, rfl, hd, sd, fun e1 => ?_, fun e => k1 e⟩
    obtain ⟨kd, hk, rfl⟩ := kindD_of e1
    have k := k2 kd rfl hk
    obtain rfl : y = .str kd := by cases hd; rfl
    have ty := hv.ty
    refine ⟨_, rfl, _, _, _, _, _, rfl, .ty _, ty, kit_oL o, _, rfl, ?_⟩
    cases e : isT "list" o with
    | false =>
      rw [progO_ty e] at k
      exact iteT (iteT (k H (Same.refl H)))
    | true =>
      obtain ⟨a, xs, ds, rfl, rfl, hL, hD, hsh⟩ := hv.lst_of e
      have hlen := dpAll_len hD
      have hb := hok _ rfl
      have k : ∀ H', Same H H' → Q (.bl (progD kd ds)) H' := k
      refine iteF ⟨_, rfl, _, _, rfl, .inl hL, _, _, rfl, rfl, _, rfl, ?_⟩
      by_cases c1 : 1 ≤ ds.length
      rotate_left
      · have k : ∀ H', Same H H' → Q (.bl false) H' := fun H' s' => by
          have := k H' s'
          unfold progD at this
          rw [decide_eq_false (fun q => c1 q.1)] at this
          exact this
        refine iteFe (decide_eq_false (by rw [hlen]; omega)) ⟨_, rfl, ?_⟩
        exact iteT (k H (Same.refl H))
      refine iteTe (decide_eq_true (by rw [hlen]; omega)) ⟨_, _, rfl, rfl, _, rfl, ?_⟩
      by_cases c2 : ds.length ≤ 12
      rotate_left
      · have k : ∀ H', Same H H' → Q (.bl false) H' := fun H' s' => by
          have := k H' s'
          unfold progD at this
          rw [decide_eq_false (fun q => c2 q.2)] at this
          exact this
        refine iteTe ?_ (k H (Same.refl H))
        show (!decide ((xs.length : Int) ≤ 12)) = true
        rw [decide_eq_false (by rw [hlen]; omega)]
        rfl
      refine iteFe ?_ ?_
      · show (!decide ((xs.length : Int) ≤ 12)) = false
        rw [decide_eq_true (by rw [hlen]; omega)]
        rfl
      have k : ∀ H', Same H H' → Q (.bl ((ds.all fun d => stepO kd (some d)) && wordsB kd (ds.map wD))) H' := fun H' s' => by
        have := k H' s'
        unfold progD at this
        rw [decide_eq_true (⟨c1, c2⟩ : 1 ≤ ds.length ∧ ds.length ≤ 12)] at this
        exact this
      have allK : ∀ s ∈ kindsL, SeqAt.shaped (.str s) = true := by decide +kernel
      refine ⟨_, rfl, a, rfl, ⟨_, hL⟩, fun D hD1 => ?_⟩
      refine lc_acc walk_list hD1 (fun H' s' => s'.seq hL) (fun i => (ds.take i).map fun d => V.bl (stepO kd (some d))) rfl (fun i hi => ?_) ?_ ?_
      · rw [List.length_map, List.length_take]
        exact Nat.lt_of_le_of_lt (Nat.le_trans (Nat.min_le_right _ _) c2) (by decide)
      · rintro i x H2 hi hx s1 R S r1 r2
        obtain ⟨dx, hdx, vx⟩ := dpAll_get hD hx
        have hm := List.mem_of_getElem? hdx
        refine ⟨rfl, tyes ⟨_, rfl, _, rfl, x, .str kd, some dx, .str kd, rfl, .dat (dp_mono s1 vx) (shaped_item (shaped_of_list hsh hm)) (hb.2 _ hm).2, (hb.2 _ hm).1, .str kd, allK kd hk, (fun e => ?_), fun k2 e hk2 H3 s3 => r1 _ _ ?_ s3⟩⟩
        · rw [kindD_str, decide_eq_true hk] at e
          cases e
        · injection e with e
          subst e
          rw [List.take_add_one, hdx]
          show List.map _ (_ ++ [dx]) = _
          rw [List.map_append]
          rfl
      · intro H2 s1 hl2
        have hl2 : H2 D = some (.lst ((ds.take xs.length).map fun d => V.bl (stepO kd (some d)))) := hl2
        rw [hlen, List.take_length] at hl2
        refine ⟨D, ds.map fun d => stepO kd (some d), rfl, SqL.of (by rw [hl2, List.map_map]; rfl), _, rfl, ?_⟩
        have eA : ((ds.map fun d => stepO kd (some d)).all fun b => b) = ds.all fun d => stepO kd (some d) := by rw [List.all_map]; rfl
        show if (!((ds.map fun d => stepO kd (some d)).all fun b => b)) = true then _ else _
        rw [eA]
        cases e1 : ds.all fun d => stepO kd (some d) with
        | false =>
          rw [e1] at k
          exact iteT (k _ s1)
        | true =>
          rw [e1] at k
          obtain ⟨sss, rfl, hval⟩ := valid_strs fun d hd => List.all_eq_true.mp e1 d hd
          have ew : (sss.map strsD).map wD = sss.map fun ss => w1 (ss.take 2) := by
            rw [List.map_map]
            exact List.map_congr_left fun ss _ => wD_strs ss
          rw [ew] at k
          have hL2 := s1.seq hL
          refine iteF ⟨_, rfl, a, rfl, ⟨_, hL2⟩, fun D2 hD2 => ?_⟩
          rw [List.length_map] at c1 c2 hlen
          refine lc_acc walk_list hD2 (fun H' s' => s'.seq hL2) (fun i => (sss.take i).map fun ss => V.str (w1 (ss.take 2))) rfl (fun i hi => ?_) ?_ ?_
          · rw [List.length_map, List.length_take]
            exact Nat.lt_of_le_of_lt (Nat.le_trans (Nat.min_le_right _ _) c2) (by decide)
          · rintro i x H3 hi hx s2 R S r1 r2
            obtain ⟨dx, hdx, vx⟩ := dpAll_get hD hx
            rw [List.getElem?_map] at hdx
            obtain ⟨ss, hss, rfl⟩ := Option.map_eq_some_iff.mp hdx
            obtain ⟨b, rfl, hb'⟩ := dp_strsT (dp_mono (s1.trans s2) vx)
            have hm : strsD ss ∈ sss.map strsD := List.mem_map.mpr ⟨ss, List.mem_of_getElem? hss, rfl⟩
            have short : ∀ s ∈ ss.take 2, s.length ≤ 1000 := fun s hs => ((hb.2 _ hm).1 _ rfl).2 s (List.mem_map.mpr ⟨s, List.mem_of_mem_take hs, rfl⟩)
            have nx : (sss.take (i + 1)).map (fun ss => V.str (w1 (ss.take 2))) = ((sss.take i).map fun ss => V.str (w1 (ss.take 2))) ++ [V.str (w1 (ss.take 2))] := by
              rw [List.take_add_one, hss]
              show List.map _ (_ ++ [ss]) = _
              rw [List.map_append]
              rfl
            refine ⟨rfl, tyes ⟨_, rfl, 2, rfl, b, _, rfl, hb', fun wh => ?_, fun nw p hp => ?_⟩⟩
            · have e2 := whole2 wh.2
              exact ⟨b, ss.take 2, rfl, by rw [e2]; exact hb', by rw [List.length_take]; exact Nat.min_le_left _ _, short, r1 _ _ nx (Same.refl _)⟩
            · rw [cut_take2]
              exact ⟨p, ss.take 2, rfl, SqT.of upd_same, by rw [List.length_take]; exact Nat.min_le_left _ _, short, r1 _ _ nx (same_new hp)⟩
          · intro H3 s2 hl3
            have hl3 : H3 D2 = some (.lst ((sss.take xs.length).map fun ss => V.str (w1 (ss.take 2)))) := hl3
            rw [hlen, List.take_length] at hl3
            have hl3 : H3 D2 = some (.lst ((sss.map fun ss => w1 (ss.take 2)).map V.str)) := by
              rw [hl3, List.map_map]
              rfl
            have k : ∀ H', Same H3 H' → Q (.bl (wordsB kd (sss.map fun ss => w1 (ss.take 2)))) H' := fun H' s' => k H' (s1.trans (s2.trans s'))
            generalize hw : (sss.map fun ss => w1 (ss.take 2)) = W at k hl3
            have w1' : 1 ≤ W.length := by rw [← hw, List.length_map]; exact c1
            have w12 : W.length ≤ 12 := by rw [← hw, List.length_map]; exact c2
            unfold wordsB at k
            refine ⟨_, rfl, D2, W, rfl, SqL.of hl3, w1', w12, fun H4 s4 => ⟨_, rfl, ?_⟩⟩
            cases q1 : endsB W with
            | false =>
              rw [q1] at k
              exact iteF (k _ s4)
            | true =>
              rw [q1] at k
              refine iteT ⟨_, rfl, _, rfl, D2, W, kd, rfl, hk, SqL.of (s4 _ _ hl3), w1', w12, fun H5 s5 => ⟨_, rfl, ?_⟩⟩
              cases q2 : hasB kd W with
              | false =>
                rw [q2] at k
                exact iteF (k _ (s4.trans s5))
              | true =>
                rw [q2] at k
                exact iteT ⟨_, rfl, D2, W, rfl, SqL.of (s5 _ _ (s4 _ _ hl3)), w1', w12, fun H6 s6 => k _ (s4.trans (s5.trans s6))⟩
theorem ok_law_is_name (T : Txt K mg w) : FnOk P w K mg base CX0 1 T.f_law_is_name T.fd_law_is_name ["_law_value"] (sp_v1 K nameO) := by
  refine T.F_law_is_name.ok sc_law_is_name (fun vs H Q E h => ?_) (fun cdv A outer s H vs Q E hr h => ?_)
  · obtain ⟨v, o, rfl, _⟩ := h
    rfl
  · obtain ⟨v, o, rfl, hv, k⟩ := h
    have ty := hv.ty
    refine ⟨_, (pss_cons (ps_if (PW.pt (pw_or (pt_not (pt_val (pe_callB (id := "isinstance") call_isi (by rfl) T.z_isinstance (by decide +kernel) (pa_cons (pv 0) (pa_cons (pe_bltn (v := .ty "str") (u := .type "str") (by rfl) T.z_str (by decide +kernel) rfl) pa_nil))))) (pw_or (pt_cmpR op_eq (pv 0) pe_str (nomark _)) (pw_or (pt_cmpR op_lt (pe_callB (id := "len") call_len_str (by rfl) T.z_len (by decide +kernel) (pa_cons (pv 0) pa_nil)) pe_int (nomark _)) (pw_or1 (pt_cmpR op_gt (pe_callB (id := "len") call_len_str (by rfl) T.z_len (by decide +kernel) (pa_cons (pv 0) pa_nil)) pe_int (nomark _))))))) (pss_one (ps_ret pe_bl)) pss_nil)
        (pss_one (ps_ret (pe_cmpR (op_eqD hr.units) (pe_lc (own := [("_law_sign", 1)]) (g := gName 1) rfl sc_law_is_name.nd (pi_str (pv 0)) (blkOk_by (own := [("_law_sign", 1)]) (N := ["_law_value", "_law_sign"]) (sc := defScope s_law_is_name) (by decide +kernel)) (fun _ _ _ _ _ => (pg_name (i := 1) sc_law_is_name.nd rfl (Or.inl rfl))) (fun _ _ _ _ _ => (pts_one (pt_cmpR op_notIn_sign (pv 1) pe_str (by rfl)))) (fun _ _ _ _ _ => (pv 1))) (pe_lst pa_nil) (nomark _))))), ?_⟩
    refine ⟨_, rfl, _, _, _, _, _, rfl, .ty _, ty, kit_o o (.inr (.inr (.inl rfl))), _, rfl, ?_⟩
    cases e : isT "str" o with
    | false =>
      rw [nameO_no e] at k
      exact iteT (iteT (k H (Same.refl H)))
    | true =>
      obtain ⟨s, rfl, rfl, hs, hok⟩ := hv.str_of e
      have hz : s.length ≤ sizeLine := Nat.le_trans hs (by decide)
      refine iteF ⟨_, rfl, rfl, _, rfl, ?_⟩
      have k : ∀ H', Same H H' → Q (.bl (nameS s)) H' := k
      unfold nameS at k
      rw [dec_str]
      cases e1 : s == ("table" : Str) with
      | true =>
        rw [e1] at k
        exact iteT (iteT (k H (Same.refl H)))
      | false =>
        rw [e1] at k
        refine iteF ⟨_, rfl, _, rfl, hz, _, _, rfl, rfl, _, rfl, ?_⟩
        by_cases e2 : (1 : Int) ≤ s.length
        · have e2' : decide ((s.length : Int) < 1) = false := decide_eq_false (by omega)
          rw [decide_eq_true e2] at k
          rw [e2']
          refine iteF ⟨_, rfl, _, rfl, hz, _, _, rfl, rfl, _, rfl, ?_⟩
          by_cases e3 : (s.length : Int) ≤ 8
          · have e3' : decide ((8 : Int) < s.length) = false := decide_eq_false (by omega)
            rw [decide_eq_true e3] at k
            rw [e3']
            refine iteF ⟨_, rfl, _, rfl, fun D hD => ?_⟩
            refine lc_acc walk_str hD (fun _ _ => trivial) (fun i => ((s.cps.toList.take i).filter fun c => !okSign c).map fun c => V.str ⟨#[c]⟩) rfl (fun i hi => ?_) ?_ ?_
            · rw [List.length_map]
              have h1 := List.length_filter_le (fun c => !okSign c) (s.cps.toList.take i)
              rw [List.length_take] at h1
              have : s.cps.size ≤ 1000 := hs
              exact Nat.lt_of_le_of_lt h1 (Nat.lt_of_le_of_lt (Nat.min_le_left _ _) (Nat.lt_of_lt_of_le hi (Nat.le_trans this (by decide))))
            · rintro i x H2 hi ⟨c, hc, rfl⟩ s1 R S r1 r2
              have hc' : s.cps.toList[i]? = some c := by rw [Array.getElem?_toList]; exact hc
              refine ⟨rfl, _, rfl, c, _, rfl, rfl, _, rfl, ?_⟩
              rw [← okSign_is]
              cases e4 : okSign c with
              | true =>
                refine iteF (r2 _ ?_ (Same.refl _))
                rw [List.take_add_one, hc']
                simp [e4]
              | false =>
                refine iteT ⟨_, rfl, r1 _ _ ?_ (Same.refl _)⟩
                rw [List.take_add_one, hc']
                simp [e4]
            · intro H2 s1 hl
              have ht : s.cps.toList.take s.cps.size = s.cps.toList := by rw [← Array.length_toList, List.take_length]
              rw [ht] at hl
              refine ⟨Nat.zero_le _, fun q hq => ?_⟩
              have s2 : Same H2 (upd H2 q (.lst [])) := fun b o eb => by
                rw [upd_ne (ne_of_none eb hq)]
                exact eb
              have hq2 : Dp K (upd H2 q (.lst [])) (.ref q) (.list []) := .lst (SqL.of upd_same) .nil
              have hl2 : Dp K (upd H2 q (.lst [])) (.ref D) (.list ((s.cps.toList.filter fun c => !okSign c).map fun c => PyData.str ⟨#[c]⟩)) := by
                refine .lst (SqL.of (s2 _ _ hl)) ?_
                have := dpAll_strs (K := K) (H := upd H2 q (.lst [])) ((s.cps.toList.filter fun c => !okSign c).map fun c => (⟨#[c]⟩ : Str))
                rw [List.map_map, List.map_map] at this
                exact this
              refine ⟨_, _, hl2, hq2, shaped_list (n := 1) (by decide) (fun d hd => ?_), shaped_nil, ?_⟩
              · obtain ⟨c, hc, rfl⟩ := List.mem_map.mp hd
                refine ⟨?_, by simp [PyData.depth]⟩
                simp only [PyData.canLay0]
                exact strOk_sign (strOk_mem hok (List.mem_filter.mp hc).1)
              · rw [eqv_nil]
                have ee : (((s.cps.toList.filter fun c => !okSign c).map fun c => PyData.str ⟨#[c]⟩).isEmpty) = s.cps.toList.all okSign := by
                  rw [List.isEmpty_map]
                  generalize s.cps.toList = l
                  induction l with
                  | nil => rfl
                  | cons a r ih => cases h : okSign a <;> simp [h, ih]
                rw [ee]
                exact k _ (s1.trans s2)
          · have e3' : decide ((8 : Int) < s.length) = true := decide_eq_true (by omega)
            rw [decide_eq_false e3] at k
            rw [e3']
            exact iteT (k H (Same.refl H))
        · have e2' : decide ((s.length : Int) < 1) = true := decide_eq_true (by omega)
          rw [decide_eq_false e2] at k
          rw [e2']
          exact iteT (iteT (k H (Same.refl H)))
theorem ok_law_kinds (T : Txt K mg w) : FnOk P w K mg base CX0 1 T.f_law_kinds T.fd_law_kinds [] sp_law_kinds := by
  refine T.F_law_kinds.ok sc_law_kinds (fun vs H Q E h => ?_) (fun cdv A outer s H vs Q E hr h => ?_)
  · obtain ⟨rfl, _⟩ := h
    rfl
  · obtain ⟨rfl, k⟩ := h
    refine ⟨_, (pss_one (ps_ret (pe_lst (pa_cons pe_str (pa_cons pe_str (pa_cons pe_str (pa_cons pe_str (pa_cons pe_str (pa_cons pe_str (pa_cons pe_str (pa_cons pe_str pa_nil))))))))))), ?_⟩
    exact ⟨(by show 8 ≤ sizeLine; decide), fun p hp => k p hp⟩
theorem ok_law_is_step (T : Txt K mg w) : FnOk P w K mg base CX0 2 T.f_law_is_step T.fd_law_is_step ["_law_value", "_law_kind"] (sp_law_is_step K) := by
  refine T.F_law_is_step.ok sc_law_is_step (fun vs H Q E h => ?_) (fun cdv A outer s H vs Q E hr h => ?_)
  · obtain ⟨v, o, kd, rfl, _⟩ := h
    rfl
  · obtain ⟨v, o, kd, rfl, hv, hsho, hk, k⟩ := h
    refine ⟨_, (pss_cons (ps_par (i := 2) (j := 3) (by rfl) sc_law_is_step.nd rfl rfl (by decide) rfl rfl (pa_cons (pe_lst (pa_cons pe_str (pa_cons pe_str (pa_cons pe_str pa_nil)))) (pa_cons (pe_lst (pa_cons pe_str (pa_cons pe_str (pa_cons pe_str (pa_cons pe_str pa_nil))))) pa_nil)) (by rfl))
        (pss_cons (ps_if (PW.pt (pw_or (pt_not (pt_val (pe_callB (id := "isinstance") call_isi (by rfl) T.z_isinstance (by decide +kernel) (pa_cons (pv 0) (pa_cons (pe_bltn (v := .ty "tuple") (u := .type "tuple") (by rfl) T.z_tuple (by decide +kernel) rfl) pa_nil))))) (pw_or (pt_cmpR (op_eqD hr.units) (pv 0) (pe_tup pa_nil) (nomark _)) (pw_or1 (pt_cmpR (op_neD hr.units) (pe_lc (own := [("_law_item", 7)]) (g := gName 7) rfl sc_law_is_step.nd (pi_tup (pv 0)) (blkOk_by (own := [("_law_item", 7)]) (N := ["_law_value", "_law_kind", "_law_askers", "_law_changes", "_law_at", "_law_where", "_law_word", "_law_item"]) (sc := defScope s_law_is_step) (by decide +kernel)) (fun _ _ _ _ _ => (pg_name (i := 7) sc_law_is_step.nd rfl (Or.inl rfl))) (fun _ _ _ _ _ => (pts_one (pt_not (pt_val (pe_callB (id := "isinstance") (r := rIsi K) call_isi (by rfl) T.z_isinstance (by decide +kernel) (pa_cons (pv 7) (pa_cons (pe_bltn (v := .ty "str") (u := .type "str") (by rfl) T.z_str (by decide +kernel) rfl) pa_nil))))))) (fun _ _ _ _ _ => (pv 7))) (pe_lst pa_nil) (nomark _)))))) (pss_one (ps_ret pe_bl)) pss_nil)
        (pss_cons (ps_if (pt_cmpR op_eq (pe_ix ix_tup (pv 0) pe_int (fun _ _ => rfl)) pe_str (nomark _)) (pss_cons (ps_if (PW.pt (pw_or (pt_cmpR op_ne (pe_callB (id := "len") call_len_seq (by rfl) T.z_len (by decide +kernel) (pa_cons (pv 0) pa_nil)) pe_int (nomark _)) (pw_or1 (pt_not (pt_val (pe_call (ok_law_is_name T) hr rfl T.m_law_is_name T.F_law_is_name.kp T.b_law_is_name .nil pass0 (pa_cons (pe_ix ix_tup (pv 0) pe_int (fun _ _ => rfl)) pa_nil))))))) (pss_one (ps_ret pe_bl)) pss_nil)
        (pss_cons (ps_set (i := 4) sc_law_is_step.nd rfl (Or.inl rfl) (pe_disp (pps_cons pe_str (pe_op op_cat (pv 2) (pv 3)) (pps_cons pe_str (pe_op op_cat (pv 2) (pe_lst (pa_cons pe_str pa_nil))) (pps_cons pe_str (pe_slice sl_list (pv 3) (po_some pe_int) po_none) (pps_cons pe_str (pv 3) pps_nil)))) (by rfl) (by rfl) (fun z => by cases z) (by decide)))
        (pss_cons (ps_dput (hu_of hr) (pv 4) pe_str (pe_lst (pa_cons pe_str (pa_cons pe_str (pa_cons pe_str pa_nil)))) rfl)
        (pss_one (ps_ret (pe_cmpR op_in_seq (pv 1) (pe_dget2 (hu_of hr) (pv 4) (pe_ix ix_tup (pv 0) pe_int (fun _ _ => rfl)) (pe_lst pa_nil) ⟨rfl, rfl, rfl, rfl⟩) (by rfl))))))) pss_nil)
        (pss_cons (ps_if (pt_cmpR op_eq (pe_ix ix_tup (pv 0) pe_int (fun _ _ => rfl)) pe_str (nomark _)) (pss_one (ps_ret (pe_and (pe_cmpR op_eq (pv 1) pe_str (nomark _)) (pe_one (pe_cmpR (op_inD (u65 hr)) (pe_slice sl_tup (pv 0) (po_some pe_int) po_none) (pe_lst (pa_cons (pe_tup (pa_cons pe_str pa_nil)) (pa_cons (pe_tup (pa_cons pe_str pa_nil)) pa_nil))) (by rfl)))))) pss_nil)
        (pss_cons (ps_if (pt_cmpR op_ne (pe_callB (id := "len") call_len_seq (by rfl) T.z_len (by decide +kernel) (pa_cons (pv 0) pa_nil)) pe_int (nomark _)) (pss_one (ps_ret pe_bl)) pss_nil)
        (pss_cons (ps_set (i := 5) sc_law_is_step.nd rfl (Or.inl rfl) (pe_disp (pps_cons pe_str (pv 2) (pps_cons pe_str (pv 2) (pps_cons pe_str (pe_lst (pa_cons pe_str pa_nil)) (pps_cons pe_str (pe_lst (pa_cons pe_str pa_nil)) (pps_cons pe_str (pe_call0 (ok_law_kinds T) hr rfl T.m_law_kinds T.F_law_kinds.kp T.b_law_kinds .nil pass0) pps_nil))))) (by rfl) (by rfl) (fun z => by cases z) (by decide)))
        (pss_cons (ps_for PassesOwn.never rfl (pi_list (pe_lst (pa_cons pe_str (pa_cons pe_str (pa_cons pe_str pa_nil))))) (pg_name (i := 6) sc_law_is_step.nd rfl (Or.inl rfl))
          (pss_one (ps_dput (hu_of hr) (pv 5) (pv 6) (pe_lst (pa_cons pe_str (pa_cons pe_str pa_nil))) rfl)))
        (pss_cons (ps_for PassesOwn.never rfl (pi_list (pe_lst (pa_cons pe_str (pa_cons pe_str pa_nil)))) (pg_name (i := 6) sc_law_is_step.nd rfl (Or.inl rfl))
          (pss_one (ps_dput (hu_of hr) (pv 5) (pv 6) (pe_lst (pa_cons pe_str pa_nil)) rfl)))
        (pss_cons (ps_for PassesOwn.never rfl (pi_list (pe_lst (pa_cons pe_str (pa_cons pe_str (pa_cons pe_str pa_nil))))) (pg_name (i := 6) sc_law_is_step.nd rfl (Or.inl rfl))
          (pss_one (ps_dput (hu_of hr) (pv 5) (pv 6) (pv 3) rfl)))
        (pss_cons (ps_dput (hu_of hr) (pv 5) pe_str (pe_lst (pa_cons pe_str (pa_cons pe_str pa_nil))) rfl)
        (pss_one (ps_ret (pe_cmpR op_in_seq (pv 1) (pe_dget2 (hu_of hr) (pv 5) (pe_ix ix_tup (pv 0) pe_int (fun _ _ => rfl)) (pe_lst pa_nil) ⟨rfl, rfl, rfl, rfl⟩) (by rfl)))))))))))))), ?_⟩
    refine ⟨(by show 3 ≤ sizeLine; decide), fun la hla => ⟨(by show 4 ≤ sizeLine; decide), fun lc hlc => ⟨_, _, rfl, ?_⟩⟩⟩
    have sa := same_new (o := .lst [.str "put", .str "strike", .str "read"]) hla
    have sc := same_new (o := .lst [.str "hang", .str "take", .str "split", .str "join"]) hlc
    have sac := sa.trans sc
    have ga : upd (upd H la (.lst [.str "put", .str "strike", .str "read"])) lc (.lst [.str "hang", .str "take", .str "split", .str "join"]) la = some (.lst (askersL.map V.str)) := sc _ _ upd_same
    have gc : upd (upd H la (.lst [.str "put", .str "strike", .str "read"])) lc (.lst [.str "hang", .str "take", .str "split", .str "join"]) lc = some (.lst (changesL.map V.str)) := upd_same
    have hv := hv.mono sac
    have k : ∀ H', Same (upd (upd H la (.lst [.str "put", .str "strike", .str "read"])) lc (.lst [.str "hang", .str "take", .str "split", .str "join"])) H' → Q (.bl (stepO kd o)) H' := fun H' s' => k H' (sac.trans s')
    generalize hG : upd (upd H la (.lst [.str "put", .str "strike", .str "read"])) lc (.lst [.str "hang", .str "take", .str "split", .str "join"]) = G at ga gc hv k ⊢
    clear hG
    have ty := hv.ty
    refine ⟨_, rfl, _, _, _, _, _, rfl, .ty _, ty, kit_o o (.inr (.inr (.inr rfl))), _, rfl, ?_⟩
    cases e : isT "tuple" o with
    | false =>
      rw [stepO_ty e] at k
      exact iteT (iteT (k G (Same.refl G)))
    | true =>
      obtain ⟨a, xs, ds, rfl, rfl, hT, hD, hsh⟩ := hv.tup_of e
      have hst := (hsho _ rfl).1
      have hst2 := (hsho _ rfl).2
      refine iteF ⟨_, rfl, (by show 0 ≤ sizeLine; decide), fun t0 ht0 => ?_⟩
      have s0 := same_new (o := .tup []) ht0
      refine ⟨.tuple ds, .tuple [], .tup (same_t s0 hT) (dpAll_mono s0 hD), .tup (SqT.of upd_same) .nil, hsh, by decide +kernel, _, rfl, ?_⟩
      have k : ∀ H', Same G H' → Q (.bl (stepD kd ds)) H' := k
      cases e0 : PyData.eqv (.tuple ds) (.tuple []) with
      | true =>
        have e1 : ds = [] := by
          cases ds with
          | nil => rfl
          | cons d r => simp [PyData.eqv, PyData.eqvAll] at e0
        rw [e1, show stepD kd [] = stepS kd [] from stepD_strs kd [], stepS_law hk] at k
        exact iteT (iteT (k _ s0))
      | false =>
        have e1 : ds ≠ [] := fun q => by
          rw [q] at e0
          simp [PyData.eqv, PyData.eqvAll] at e0
        refine iteF ⟨_, rfl, a, rfl, ⟨_, same_t s0 hT⟩, fun D hD2 => ?_⟩
        have hlen := dpAll_len hD
        refine lc_acc walk_tup hD2 (fun H' s' => same_t (s0.trans s') hT) (fun i => filtG notStr (xs.take i) (ds.take i)) rfl (fun i hi => Nat.lt_of_le_of_lt (filtG_len _ _ _) ?_) ?_ ?_
        · rw [List.length_take]
          exact Nat.lt_of_le_of_lt (Nat.le_trans (Nat.min_le_right _ _) (by rw [hlen]; exact hst)) (by decide)
        · rintro i z H2 hi hz s1 R S r1 r2
          obtain ⟨dz, hdz, vz⟩ := dpAll_get hD hz
          have tz := (dp_vO (dp_mono (s0.trans s1) vz)).1
          have step := filtG_step (f := notStr) hz hdz
          refine ⟨rfl, _, rfl, _, _, _, _, _, rfl, .ty _, tz, kit_o (some dz) (.inr (.inr (.inl rfl))), _, rfl, ?_⟩
          have en : isT "str" (some dz) = !notStr dz := by cases dz <;> rfl
          rw [en]
          cases q : notStr dz with
          | false =>
            rw [if_neg (by rw [q]; decide)] at step
            exact iteF (r2 _ step (Same.refl _))
          | true =>
            rw [if_pos q] at step
            exact iteT ⟨_, rfl, r1 _ _ step (Same.refl _)⟩
        · intro H2 s1 hl
          have hl : H2 D = some (.lst (filtG notStr (xs.take xs.length) (ds.take xs.length))) := hl
          rw [List.take_length, hlen, List.take_length] at hl
          refine ⟨Nat.zero_le _, fun q hq => ?_⟩
          have s2 := same_new (o := .lst []) hq
          have sC := s0.trans (s1.trans s2)
          refine ⟨_, _, .lst (SqL.of (s2 _ _ hl)) (filtG_dp (dpAll_mono sC hD)), .lst (SqL.of upd_same) .nil, shaped_list (n := 63) (by decide) (fun d hd => shaped_of_tuple hsh (List.mem_filter.mp hd).1), shaped_nil, _, rfl, ?_⟩
          rw [eqv_nil]
          cases ef : (ds.filter notStr).isEmpty with
          | false =>
            rw [stepD_no (strs_ds_no ef)] at k
            exact iteT (k _ sC)
          | true =>
            obtain ⟨ss, rfl⟩ := strs_ds ef
            obtain rfl := dp_strs hD
            rw [stepD_strs, stepS_law hk] at k
            have k : ∀ H', Same (upd H2 q (.lst [])) H' → Q (.bl (lawS kd ss)) H' := fun H' s' => k H' (sC.trans s')
            have hT := same_t sC hT
            have ga := sC _ _ ga
            have gc := sC _ _ gc
            have hshort : ∀ s ∈ ss, s.length ≤ 1000 := fun s hs => hst2 s (List.mem_map.mpr ⟨s, hs, rfl⟩)
            have hok : ∀ s ∈ ss, SeqAt.shaped (.str s) = true := fun s hs => shaped_item (shaped_of_tuple hsh (List.mem_map.mpr ⟨s, hs, rfl⟩))
            cases ss with
            | nil => exact absurd rfl e1
            | cons w0 r =>
            clear hsho hv hD hsh e hlen hst hst2 e0 e1 ef hl s2 s1 s0 hD2 ht0 hq
            generalize upd H2 q (.lst []) = G at sC k hT ga gc ⊢
            refine iteF ⟨_, rfl, a, _, _, _, rfl, rfl, hT, atI_nat (j := 0) rfl, rfl, _, rfl, ?_⟩
            rw [dec_str]
            cases q0 : (w0 == ("lock" : Str)) with
            | true =>
              obtain rfl := eq_of_beq q0
              refine iteT ⟨_, rfl, _, _, rfl, .inr hT, rfl, _, rfl, ?_⟩
              rw [dec_int]
              have k : ∀ H', Same G H' → Q (.bl (lockR kd r)) H' := k
              rcases r with _ | ⟨b, _ | ⟨c, _ | ⟨d, r⟩⟩⟩
              · exact iteT (iteT (k _ (Same.refl _)))
              · exact iteT (iteT (k _ (Same.refl _)))
              · refine iteF ⟨_, rfl, a, _, _, _, rfl, rfl, hT, atI_nat (j := 2) rfl, .str c, some (.str c), rfl, .dat (.str c) (hok c (by simp)) (fun s e => by cases e; exact hshort c (by simp)), fun H3 s3 => ⟨_, rfl, ?_⟩⟩
                have k : ∀ H', Same G H' → Q (.bl (nameS c && decide (kd ∈ (getO atTb b).getD []))) H' := k
                show if (!nameS c) = true then _ else _
                cases en : nameS c with
                | false =>
                  rw [en] at k
                  exact iteT (k _ s3)
                | true =>
                  rw [en] at k
                  have k : ∀ H', Same H3 H' → Q (.bl (decide (kd ∈ (getO atTb b).getD []))) H' := fun H' s' => k H' (s3.trans s')
                  have hT := same_t s3 hT
                  have ga := s3 _ _ ga
                  have gc := s3 _ _ gc
                  refine iteF ?_
                  intro pd hpd
                  have s4 := same_new (o := .dK []) hpd
                  refine ⟨_, rfl, _, rfl, la, lc, _, _, rfl, rfl, s4 _ _ ga, s4 _ _ gc, (by show 3 + 4 ≤ sizeLine; decide), fun l1 hl1 => ?_⟩
                  have s5 := same_new (o := .lst ((askersL ++ changesL).map V.str)) hl1
                  have s45 := s4.trans s5
                  refine ⟨_, rfl, (by show 1 ≤ sizeLine; decide), fun m1 hm1 => ?_⟩
                  have s6 := same_new (o := .lst [.str "direct"]) hm1
                  have s46 := s45.trans s6
                  refine ⟨la, m1, _, _, rfl, rfl, s46 _ _ ga, upd_same, (by show 3 + 1 ≤ sizeLine; decide), fun l2 hl2 => ?_⟩
                  have s7 := same_new (o := .lst ((askersL ++ (["direct"] : List Str)).map V.str)) hl2
                  have s47 := s46.trans s7
                  refine ⟨_, rfl, 1, rfl, lc, _, rfl, SqL.of (s47 _ _ gc), fun l3 hl3 => ?_⟩
                  have s8 := same_new (o := .lst ((["take", "split", "join"] : List Str).map V.str)) hl3
                  have s48 := s47.trans s8
                  have hpd8 := s8 _ _ (s7 _ _ (s6 _ _ (s5 _ _ (upd_same (H := H3) (a := pd) (o := .dK [])))))
                  refine ⟨_, rfl, hpd8, [(.inr "table", .ref l1), (.inr "part", .ref l2), (.inr "old", .ref l3), (.inr "rest", .ref lc)], rfl, (by show 4 ≤ 15; decide), ?_⟩
                  have kt : KvT _ _ (([("table", askersL ++ changesL), ("part", askersL ++ (["direct"] : List Str)), ("old", ["take", "split", "join"]), ("rest", changesL)] : List (Str × List Str))) := .cons (s := "table") (s8 _ _ (s7 _ _ (s6 _ _ upd_same))) (.cons (s := "part") (s8 _ _ upd_same) (.cons (s := "old") upd_same (.cons (s := "rest") (s48 _ _ gc) .nil)))
                  have kt := (kt.merge .nil (by decide +kernel)).over (o := .dK (mergeK [] [(.inr "table", .ref l1), (.inr "part", .ref l2), (.inr "old", .ref l3), (.inr "rest", .ref lc)])) hpd8
                  have sb := same_over s48 (o := .dK (mergeK [] [(.inr "table", .ref l1), (.inr "part", .ref l2), (.inr "old", .ref l3), (.inr "rest", .ref lc)])) hpd
                  refine ⟨(by show 3 ≤ sizeLine; decide), fun l4 hl4 => ?_⟩
                  have s9 := same_new (o := .lst ((["hang", "split", "join"] : List Str).map V.str)) hl4
                  have hd := s9 _ _ (upd_same (a := pd) (o := .dK (mergeK [] [(.inr "table", .ref l1), (.inr "part", .ref l2), (.inr "old", .ref l3), (.inr "rest", .ref lc)])))
                  have kt := kt.mono s9
                  refine ⟨_, rfl, pd, _, rfl, DPut.k (k := .inr "new") hd (by rw [kt.len]; decide), ?_⟩
                  have kt := (kt.put (ss := (["hang", "split", "join"] : List Str)) (w := "new") upd_same (by decide +kernel)).over (o := .dK (putK (mergeK [] [(.inr "table", .ref l1), (.inr "part", .ref l2), (.inr "old", .ref l3), (.inr "rest", .ref lc)]) (.inr "new") (.ref l4))) hd
                  have sb := same_over (sb.trans s9) (o := .dK (putK (mergeK [] [(.inr "table", .ref l1), (.inr "part", .ref l2), (.inr "old", .ref l3), (.inr "rest", .ref lc)]) (.inr "new") (.ref l4))) hpd
                  refine ⟨_, rfl, _, rfl, pd, rfl, .inl ⟨_, .inl upd_same⟩, _, rfl, a, _, _, _, rfl, rfl, same_t sb hT, atI_nat (j := 1) rfl, (by show 0 ≤ sizeLine; decide), fun q hq => ?_⟩
                  have s10 := same_new (o := .lst []) hq
                  have kt := kt.mono s10
                  have k := k _ (sb.trans s10)
                  refine ⟨_, DGet.k (k := .inr b) (s10 _ _ upd_same), ?_⟩
                  rcases kt.get b with ⟨e1, e2⟩ | ⟨a', ss, e1, e2, e3⟩
                  · rw [show getO atTb b = _ from e1] at k
                    rw [e2]
                    exact ⟨q, [], rfl, .inl (SqL.of upd_same), rfl, rfl, k⟩
                  · rw [show getO atTb b = _ from e1] at k
                    rw [e2]
                    refine ⟨a', ss.map V.str, rfl, .inl (SqL.of e3), rfl, flat_strs ss, ?_⟩
                    rw [in_strs]
                    exact k
              · refine iteTe ?_ (iteT (k _ (Same.refl _)))
                show (!(((List.length (V.str "lock" :: V.str b :: V.str c :: V.str d :: List.map V.str r) : Nat) : Int) == 3)) = true
                rw [Bool.not_eq_true', beq_eq_false_iff_ne]
                simp only [List.length_cons]
                omega
            | false =>
              have w1 : ¬ w0 = ("lock" : Str) := fun e => by rw [e] at q0; cases q0
              have k : ∀ H', Same G H' → Q (.bl (if w0 = "scan" then decide (kd = "hang") && decide (r ∈ ([["new"], ["rest"]] : List (List Str))) else whereR kd w0 r)) H' := fun H' s' => by
                have := k H' s'
                rw [show lawS kd (w0 :: r) = if w0 = "lock" then lockR kd r else _ from rfl, if_neg w1] at this
                exact this
              refine iteF ⟨_, rfl, a, _, _, _, rfl, rfl, hT, atI_nat (j := 0) rfl, rfl, _, rfl, ?_⟩
              rw [dec_str]
              cases q1 : (w0 == ("scan" : Str)) with
              | true =>
                obtain rfl := eq_of_beq q1
                rw [if_pos rfl] at k
                refine iteT ⟨_, rfl, rfl, _, rfl, ?_⟩
                rw [dec_str]
                cases q2 : (kd == ("hang" : Str)) with
                | false =>
                  rw [decide_eq_false fun e => by rw [e] at q2; cases q2] at k
                  exact iteF (k _ (Same.refl _))
                | true =>
                  rw [decide_eq_true (eq_of_beq q2)] at k
                  refine iteT ⟨_, rfl, 1, rfl, a, _, rfl, hT, (fun q => ?_), fun t ht => ?_⟩
                  · have := q.1
                    rw [show (1 : Int) = ((1 : Nat) : Int) from rfl, HT.sIx_nat] at this
                    simp at this
                  · have ec : cutV ((("scan" : Str) :: r).map V.str) (some 1) none = r.map V.str := by
                      unfold cutV
                      rw [show (1 : Int) = ((1 : Nat) : Int) from rfl, HT.sIx_nat, HT.sIx_none]
                      simp
                      exact List.take_of_length_le (by simp)
                    rw [ec]
                    have s4 := same_new (o := .tup (r.map V.str)) ht
                    refine ⟨(by show 1 ≤ sizeLine; decide), fun t1 ht1 => ⟨(by show 1 ≤ sizeLine; decide), fun t2 ht2 => ⟨(by show 2 ≤ sizeLine; decide), fun l hl => ?_⟩⟩⟩
                    have s5 := same_new (o := .tup [.str "new"]) ht1
                    have s6 := same_new (o := .tup [.str "rest"]) ht2
                    have s7 := same_new (o := .lst [.ref t1, .ref t2]) hl
                    refine ⟨strsD r, ([["new"], ["rest"]] : List (List Str)).map strsD, .tup (SqT.of (s7 _ _ (s6 _ _ (s5 _ _ upd_same)))) (dpAll_strs r), .lst (SqL.of upd_same) (.cons (.tup (SqT.of (s7 _ _ (s6 _ _ upd_same))) (dpAll_strs ["new"])) (.cons (.tup (SqT.of (s7 _ _ upd_same)) (dpAll_strs ["rest"])) .nil)), strsD_shaped fun s hs => hok s (List.mem_cons_of_mem _ hs), by decide +kernel, ?_⟩
                    rw [any_strsD]
                    exact k _ (s4.trans (s5.trans (s6.trans s7)))
              | false =>
                have w2 : ¬ w0 = ("scan" : Str) := fun e => by rw [e] at q1; cases q1
                rw [if_neg w2] at k
                refine iteF ⟨_, rfl, _, _, rfl, .inr hT, rfl, _, rfl, ?_⟩
                rw [dec_int]
                rcases r with _ | ⟨b, r⟩
                rotate_left
                · refine iteTe ?_ (k _ (Same.refl _))
                  show (!(((List.length (V.str w0 :: V.str b :: List.map V.str r) : Nat) : Int) == 1)) = true
                  rw [Bool.not_eq_true', beq_eq_false_iff_ne]
                  simp only [List.length_cons]
                  omega
                refine iteF ?_
                have k : ∀ H', Same G H' → Q (.bl (decide (kd ∈ (getO whereTb w0).getD []))) H' := k
                intro pd hpd
                have s4 := same_new (o := .dK []) hpd
                refine ⟨_, rfl, _, rfl, (by show 1 ≤ sizeLine; decide), fun l1 hl1 => ⟨(by show 1 ≤ sizeLine; decide), fun l2 hl2 => ⟨rfl, fun l3 hl3 => ?_⟩⟩⟩
                have s5 := same_new (o := .lst [.str "direct"]) hl1
                have s6 := same_new (o := .lst [.str "strike"]) hl2
                have s7 := same_new (o := .lst (kindsL.map V.str)) hl3
                have s47 := s4.trans (s5.trans (s6.trans s7))
                have hpd7 := s7 _ _ (s6 _ _ (s5 _ _ (upd_same (H := G) (a := pd) (o := .dK []))))
                refine ⟨hpd7, [(.inr "look", .ref la), (.inr "again", .ref la), (.inr "border", .ref l1), (.inr "strike", .ref l2), (.inr "end", .ref l3)], rfl, (by show 5 ≤ 15; decide), ?_⟩
                have kt : KvT _ _ (whereTb.take 5) := .cons (s := "look") (s47 _ _ ga) (.cons (s := "again") (s47 _ _ ga) (.cons (s := "border") (s7 _ _ (s6 _ _ upd_same)) (.cons (s := "strike") (s7 _ _ upd_same) (.cons (s := "end") upd_same .nil))))
                have kt := (kt.merge .nil (by decide +kernel)).over (o := .dK (mergeK [] [(.inr "look", .ref la), (.inr "again", .ref la), (.inr "border", .ref l1), (.inr "strike", .ref l2), (.inr "end", .ref l3)])) hpd7
                have sb := same_over s47 (o := .dK (mergeK [] [(.inr "look", .ref la), (.inr "again", .ref la), (.inr "border", .ref l1), (.inr "strike", .ref l2), (.inr "end", .ref l3)])) hpd
                have hd := upd_same (H := upd (upd (upd (upd G pd (.dK [])) l1 (.lst [.str "direct"])) l2 (.lst [.str "strike"])) l3 (.lst (kindsL.map V.str))) (a := pd) (o := .dK (mergeK [] [(.inr "look", .ref la), (.inr "again", .ref la), (.inr "border", .ref l1), (.inr "strike", .ref l2), (.inr "end", .ref l3)]))
                refine ⟨(by show 3 ≤ sizeLine; decide), fun lw1 hlw => ?_⟩
                have sw := same_new (o := .lst ((["key", "put", "claim"] : List Str).map V.str)) hlw
                have hd := sw _ _ hd
                have kt := kt.mono sw
                have sb := sb.trans sw
                refine ⟨lw1, rfl, ⟨_, SqL.of upd_same⟩, for_list (K := K) (a := lw1) (xs := (["key", "put", "claim"] : List Str).map V.str) (fun i σ H' => ∃ (v6 : Option V) (kvs : List (Key × V)), σ = [some (.ref a), some (.str kd), some (.ref la), some (.ref lc), none, some (.ref pd), v6, none] ∧ Same G H' ∧ H' lw1 = some (.lst ((["key", "put", "claim"] : List Str).map V.str)) ∧ H' pd = some (.dK kvs) ∧ KvT H' kvs (whereTb.take 5 ++ ((["key", "put", "claim"] : List Str).take i).map fun s => (s, (["put", "direct"] : List Str)))) ⟨_, _, rfl, sb, upd_same, hd, by rw [List.take_zero, List.map_nil, List.append_nil]; exact kt⟩ (fun i σ H' _ ⟨_, _, _, _, h, _⟩ => SqL.of h) ?_ ?_⟩
                · rintro i x σ H2 hi ⟨v6, kv, rfl, s2, hw2, hd2, kt⟩
                  rw [List.getElem?_map] at hi
                  obtain ⟨wd, hwd, rfl⟩ := Option.map_eq_some_iff.mp hi
                  have hlt : i < 3 := (List.getElem?_eq_some_iff.mp hwd).1
                  refine ⟨(by show 2 ≤ sizeLine; decide), fun l hl => ?_⟩
                  have s3 := same_new (o := .lst ((["put", "direct"] : List Str).map V.str)) hl
                  have hd3 := s3 _ _ hd2
                  have kt3 := kt.mono s3
                  have kl := kt3.len
                  refine ⟨_, rfl, _, rfl, pd, _, rfl, DPut.k (k := .inr wd) hd3 ?_, ?_⟩
                  · rw [kl, List.length_append, List.length_map]
                    have : ((["key", "put", "claim"] : List Str).take i).length ≤ 3 := by rw [List.length_take]; exact Nat.min_le_right _ _
                    have h20 : (whereTb.take 5 : List (Str × List Str)).length ≤ 20 := by decide
                    exact Nat.lt_of_le_of_lt (Nat.add_le_add h20 this) (by decide)
                  · have fr : (getO (whereTb.take 5 ++ ((["key", "put", "claim"] : List Str).take i).map fun s => (s, (["put", "direct"] : List Str))) wd).isNone = true := by
                      have all : ∀ i < 3, ∀ s ∈ (["key", "put", "claim"] : List Str)[i]?.toList, (getO (whereTb.take 5 ++ ((["key", "put", "claim"] : List Str).take i).map fun s => (s, (["put", "direct"] : List Str))) s).isNone = true := by decide +kernel
                      exact all i hlt wd (by rw [hwd]; exact List.mem_singleton.mpr rfl)
                    have kt4 := (kt3.put (ss := (["put", "direct"] : List Str)) (w := wd) upd_same fr).over (o := .dK (putK kv (.inr wd) (.ref l))) hd3
                    refine ⟨_, _, rfl, same_over (s2.trans s3) hpd, ?_, upd_same, ?_⟩
                    · rw [upd_ne fun e => by rw [e, hd2] at hw2; cases hw2]
                      exact s3 _ _ hw2
                    · have et : (["key", "put", "claim"] : List Str).take (i + 1) = (["key", "put", "claim"] : List Str).take i ++ [wd] := by
                        rw [List.take_add_one, hwd]
                        rfl
                      rw [et, List.map_append, ← List.append_assoc]
                      exact kt4
                rintro σ H11 ⟨v1, kv1, rfl, sb, _, hd, kt⟩
                have kt : KvT H11 kv1 (whereTb.take 5 ++ (["key", "put", "claim"] : List Str).map fun s => (s, (["put", "direct"] : List Str))) := kt
                refine ⟨(by show 2 ≤ sizeLine; decide), fun lw2 hlw => ?_⟩
                have sw := same_new (o := .lst ((["view", "read"] : List Str).map V.str)) hlw
                have hd := sw _ _ hd
                have kt := kt.mono sw
                have sb := sb.trans sw
                refine ⟨lw2, rfl, ⟨_, SqL.of upd_same⟩, for_list (K := K) (a := lw2) (xs := (["view", "read"] : List Str).map V.str) (fun i σ H' => ∃ (v6 : Option V) (kvs : List (Key × V)), σ = [some (.ref a), some (.str kd), some (.ref la), some (.ref lc), none, some (.ref pd), v6, none] ∧ Same G H' ∧ H' lw2 = some (.lst ((["view", "read"] : List Str).map V.str)) ∧ H' pd = some (.dK kvs) ∧ KvT H' kvs (whereTb.take 8 ++ ((["view", "read"] : List Str).take i).map fun s => (s, (["read"] : List Str)))) ⟨_, _, rfl, sb, upd_same, hd, by rw [List.take_zero, List.map_nil, List.append_nil]; exact kt⟩ (fun i σ H' _ ⟨_, _, _, _, h, _⟩ => SqL.of h) ?_ ?_⟩
                · rintro i x σ H2 hi ⟨v6, kv, rfl, s2, hw2, hd2, kt⟩
                  rw [List.getElem?_map] at hi
                  obtain ⟨wd, hwd, rfl⟩ := Option.map_eq_some_iff.mp hi
                  have hlt : i < 2 := (List.getElem?_eq_some_iff.mp hwd).1
                  refine ⟨(by show 1 ≤ sizeLine; decide), fun l hl => ?_⟩
                  have s3 := same_new (o := .lst ((["read"] : List Str).map V.str)) hl
                  have hd3 := s3 _ _ hd2
                  have kt3 := kt.mono s3
                  have kl := kt3.len
                  refine ⟨_, rfl, _, rfl, pd, _, rfl, DPut.k (k := .inr wd) hd3 ?_, ?_⟩
                  · rw [kl, List.length_append, List.length_map]
                    have : ((["view", "read"] : List Str).take i).length ≤ 2 := by rw [List.length_take]; exact Nat.min_le_right _ _
                    have h20 : (whereTb.take 8 : List (Str × List Str)).length ≤ 20 := by decide
                    exact Nat.lt_of_le_of_lt (Nat.add_le_add h20 this) (by decide)
                  · have fr : (getO (whereTb.take 8 ++ ((["view", "read"] : List Str).take i).map fun s => (s, (["read"] : List Str))) wd).isNone = true := by
                      have all : ∀ i < 2, ∀ s ∈ (["view", "read"] : List Str)[i]?.toList, (getO (whereTb.take 8 ++ ((["view", "read"] : List Str).take i).map fun s => (s, (["read"] : List Str))) s).isNone = true := by decide +kernel
                      exact all i hlt wd (by rw [hwd]; exact List.mem_singleton.mpr rfl)
                    have kt4 := (kt3.put (ss := (["read"] : List Str)) (w := wd) upd_same fr).over (o := .dK (putK kv (.inr wd) (.ref l))) hd3
                    refine ⟨_, _, rfl, same_over (s2.trans s3) hpd, ?_, upd_same, ?_⟩
                    · rw [upd_ne fun e => by rw [e, hd2] at hw2; cases hw2]
                      exact s3 _ _ hw2
                    · have et : (["view", "read"] : List Str).take (i + 1) = (["view", "read"] : List Str).take i ++ [wd] := by
                        rw [List.take_add_one, hwd]
                        rfl
                      rw [et, List.map_append, ← List.append_assoc]
                      exact kt4
                rintro σ H12 ⟨v2, kv2, rfl, sb, _, hd, kt⟩
                have kt : KvT H12 kv2 (whereTb.take 8 ++ (["view", "read"] : List Str).map fun s => (s, (["read"] : List Str))) := kt
                refine ⟨(by show 3 ≤ sizeLine; decide), fun lw3 hlw => ?_⟩
                have sw := same_new (o := .lst ((["switch", "wait", "close"] : List Str).map V.str)) hlw
                have hd := sw _ _ hd
                have kt := kt.mono sw
                have sb := sb.trans sw
                refine ⟨lw3, rfl, ⟨_, SqL.of upd_same⟩, for_list (K := K) (a := lw3) (xs := (["switch", "wait", "close"] : List Str).map V.str) (fun i σ H' => ∃ (v6 : Option V) (kvs : List (Key × V)), σ = [some (.ref a), some (.str kd), some (.ref la), some (.ref lc), none, some (.ref pd), v6, none] ∧ Same G H' ∧ H' lw3 = some (.lst ((["switch", "wait", "close"] : List Str).map V.str)) ∧ H' pd = some (.dK kvs) ∧ KvT H' kvs (whereTb.take 10 ++ ((["switch", "wait", "close"] : List Str).take i).map fun s => (s, (changesL : List Str)))) ⟨_, _, rfl, sb, upd_same, hd, by rw [List.take_zero, List.map_nil, List.append_nil]; exact kt⟩ (fun i σ H' _ ⟨_, _, _, _, h, _⟩ => SqL.of h) ?_ ?_⟩
                · rintro i x σ H2 hi ⟨v6, kv, rfl, s2, hw2, hd2, kt⟩
                  rw [List.getElem?_map] at hi
                  obtain ⟨wd, hwd, rfl⟩ := Option.map_eq_some_iff.mp hi
                  have hlt : i < 3 := (List.getElem?_eq_some_iff.mp hwd).1
                  have hd3 := hd2
                  have kt3 := kt
                  have kl := kt3.len
                  refine ⟨_, rfl, _, rfl, _, rfl, pd, _, rfl, DPut.k (k := .inr wd) hd3 ?_, ?_⟩
                  · rw [kl, List.length_append, List.length_map]
                    have : ((["switch", "wait", "close"] : List Str).take i).length ≤ 3 := by rw [List.length_take]; exact Nat.min_le_right _ _
                    have h20 : (whereTb.take 10 : List (Str × List Str)).length ≤ 20 := by decide
                    exact Nat.lt_of_le_of_lt (Nat.add_le_add h20 this) (by decide)
                  · have fr : (getO (whereTb.take 10 ++ ((["switch", "wait", "close"] : List Str).take i).map fun s => (s, (changesL : List Str))) wd).isNone = true := by
                      have all : ∀ i < 3, ∀ s ∈ (["switch", "wait", "close"] : List Str)[i]?.toList, (getO (whereTb.take 10 ++ ((["switch", "wait", "close"] : List Str).take i).map fun s => (s, (changesL : List Str))) s).isNone = true := by decide +kernel
                      exact all i hlt wd (by rw [hwd]; exact List.mem_singleton.mpr rfl)
                    have kt4 := (kt3.put (ss := (changesL : List Str)) (w := wd) (s2 _ _ gc) fr).over (o := .dK (putK kv (.inr wd) (.ref lc))) hd3
                    refine ⟨_, _, rfl, same_over s2 hpd, ?_, upd_same, ?_⟩
                    · rw [upd_ne fun e => by rw [e, hd2] at hw2; cases hw2]
                      exact hw2
                    · have et : (["switch", "wait", "close"] : List Str).take (i + 1) = (["switch", "wait", "close"] : List Str).take i ++ [wd] := by
                        rw [List.take_add_one, hwd]
                        rfl
                      rw [et, List.map_append, ← List.append_assoc]
                      exact kt4
                rintro σ H13 ⟨v3, kv3, rfl, sb, _, hd, kt⟩
                have kt : KvT H13 kv3 (whereTb.take 10 ++ (["switch", "wait", "close"] : List Str).map fun s => (s, (changesL : List Str))) := kt
                refine ⟨(by show 2 ≤ sizeLine; decide), fun l9 hl9 => ?_⟩
                have s9 := same_new (o := .lst ((["split", "join"] : List Str).map V.str)) hl9
                have hd := s9 _ _ hd
                have kt := kt.mono s9
                refine ⟨_, rfl, pd, _, rfl, DPut.k (k := .inr "move") hd (by rw [kt.len]; decide), ?_⟩
                have kt := (kt.put (ss := (["split", "join"] : List Str)) (w := "move") upd_same (by decide +kernel)).over (o := .dK (putK kv3 (.inr "move") (.ref l9))) hd
                have sb := same_over (sb.trans s9) (o := .dK (putK kv3 (.inr "move") (.ref l9))) hpd
                refine ⟨_, rfl, _, rfl, pd, rfl, .inl ⟨_, .inl upd_same⟩, _, rfl, a, _, _, _, rfl, rfl, same_t sb hT, atI_nat (j := 0) rfl, (by show 0 ≤ sizeLine; decide), fun q hq => ?_⟩
                have s10 := same_new (o := .lst []) hq
                have kt := kt.mono s10
                have k := k _ (sb.trans s10)
                refine ⟨_, DGet.k (k := .inr w0) (s10 _ _ upd_same), ?_⟩
                rcases kt.get w0 with ⟨e1, e2⟩ | ⟨a', ss, e1, e2, e3⟩
                · rw [show getO whereTb w0 = _ from e1] at k
                  rw [e2]
                  exact ⟨q, [], rfl, .inl (SqL.of upd_same), rfl, rfl, k⟩
                · rw [show getO whereTb w0 = _ from e1] at k
                  rw [e2]
                  refine ⟨a', ss.map V.str, rfl, .inl (SqL.of e3), rfl, flat_strs ss, ?_⟩
                  rw [in_strs]
                  exact k
theorem ok_law_drawn_step (T : Txt K mg w) : FnOk P w K mg base CX0 2 T.f_law_drawn_step T.fd_law_drawn_step ["_law_box_here", "_law_modes"] sp_drawn_step := by
  refine T.F_law_drawn_step.ok sc_law_drawn_step (fun vs H Q E h => ?_) (fun cdv A outer s H vs Q E hr h => ?_)
  · obtain ⟨H0, p, m, n, ms, rfl, _⟩ := h
    rfl
  · obtain ⟨H0, p, m, n, ms, rfl, B, hm, hm0, hmz, hok, hn, k⟩ := h
    refine ⟨_, (pss_cons (ps_set (i := 2) sc_law_drawn_step.nd rfl (Or.inl rfl) (pe_lst (pa_cons pe_str (pa_cons pe_str (pa_cons pe_str (pa_cons pe_str (pa_cons pe_str (pa_cons pe_str (pa_cons pe_str pa_nil)))))))))
        (pss_cons (ps_set (i := 2) sc_law_drawn_step.nd rfl (Or.inl rfl) (pe_op op_cat (pv 2) (pe_lst (pa_cons pe_str (pa_cons pe_str (pa_cons pe_str (pa_cons pe_str (pa_cons pe_str (pa_cons pe_str pa_nil)))))))))
        (pss_cons (ps_if (pt_cmpR op_eq (pe_call (ok_law_take T) hr rfl T.m_law_take T.F_law_take.kp T.b_law_take .nil pass0 (pa_cons (pv 0) (pa_cons pe_int pa_nil))) pe_int (nomark _)) (pss_cons (ps_set (i := 3) sc_law_drawn_step.nd rfl (Or.inl rfl) (pe_ix ix_list (pe_lst (pa_cons pe_str (pa_cons pe_str (pa_cons pe_str (pa_cons pe_str (pa_cons pe_str pa_nil)))))) (pe_call (ok_law_take T) hr rfl T.m_law_take T.F_law_take.kp T.b_law_take .nil pass0 (pa_cons (pv 0) (pa_cons pe_int pa_nil))) (fun _ _ => rfl)))
        (pss_one (ps_ret (pe_tup (pa_cons pe_str (pa_cons (pv 3) (pa_cons (pe_ix ix_list (pv 1) (pe_call (ok_law_take T) hr rfl T.m_law_take T.F_law_take.kp T.b_law_take .nil pass0 (pa_cons (pv 0) (pa_cons (pe_callB (id := "len") call_len_seq (by rfl) T.z_len (by decide +kernel) (pa_cons (pv 1) pa_nil)) pa_nil))) (fun _ _ => rfl)) pa_nil))))))) pss_nil)
        (pss_cons (ps_if (pt_cmpR op_eq (pe_call (ok_law_take T) hr rfl T.m_law_take T.F_law_take.kp T.b_law_take .nil pass0 (pa_cons (pv 0) (pa_cons pe_int pa_nil))) pe_int (nomark _)) (pss_one (ps_ret (pe_tup (pa_cons pe_str (pa_cons (pe_ix ix_list (pe_lst (pa_cons pe_str (pa_cons pe_str pa_nil))) (pe_call (ok_law_take T) hr rfl T.m_law_take T.F_law_take.kp T.b_law_take .nil pass0 (pa_cons (pv 0) (pa_cons pe_int pa_nil))) (fun _ _ => rfl)) pa_nil))))) pss_nil)
        (pss_one (ps_ret (pe_tup (pa_cons (pe_ix ix_list (pv 2) (pe_call (ok_law_take T) hr rfl T.m_law_take T.F_law_take.kp T.b_law_take .nil pass0 (pa_cons (pv 0) (pa_cons pe_int pa_nil))) (fun _ _ => rfl)) pa_nil)))))))), ?_⟩
    refine ⟨(by show 7 ≤ sizeLine; decide), fun l1 hl1 => ?_⟩
    have B1 := B.new (o := .lst ((["look", "again", "border", "key", "put", "claim", "strike"] : List Str).map V.str)) hl1
    refine ⟨_, rfl, (by show 6 ≤ sizeLine; decide), fun l2 hl2 => ?_⟩
    have B2 := B1.1.new (o := .lst ((["view", "read", "move", "switch", "wait", "close"] : List Str).map V.str)) hl2
    refine ⟨l1, l2, _, _, rfl, rfl, B2.1.same _ _ (B2.2 _ _ upd_same), upd_same, (by show 7 + 6 ≤ sizeLine; decide), fun l3 hl3 => ?_⟩
    have B3 := B2.1.new (o := .lst ((["look", "again", "border", "key", "put", "claim", "strike", "view", "read", "move", "switch", "wait", "close"] : List Str).map V.str)) hl3
    have m03 := B1.2.trans (B2.2.trans B3.2)
    have plainOk : ∀ s ∈ (["look", "again", "border", "key", "put", "claim", "strike", "view", "read", "move", "switch", "wait", "close"] : List Str), sOk 16 s := by unfold sOk; decide +kernel
    have whereOk : ∀ s ∈ (["table", "part", "old", "new", "rest"] : List Str), sOk 16 s := by unfold sOk; decide +kernel
    have scanOk : ∀ s ∈ (["new", "rest"] : List Str), sOk 16 s := by unfold sOk; decide +kernel
    refine ⟨_, rfl, _, p, _, 2, rfl, B3.1, by omega, by decide, by decide, fun z1 H1 z10 z11 B4 => ⟨rfl, _, rfl, ?_⟩⟩
    refine ite2 (fun c => ?_) (fun c => ?_)
    · refine ⟨(by show 5 ≤ sizeLine; decide), fun l4 hl4 => ?_⟩
      have B5 := B4.new (o := .lst ((["table", "part", "old", "new", "rest"] : List Str).map V.str)) hl4
      refine ⟨_, rfl, _, p, _, 5, rfl, B5.1, by omega, by decide, by decide, fun z2 H2 z20 z21 B6 => ?_⟩
      obtain ⟨v, hv, hmv⟩ := atI_in (xs := (["table", "part", "old", "new", "rest"] : List Str).map V.str) z20 z21
      refine ⟨l4, _, z2, v, rfl, rfl, SqL.of (B6.same _ _ upd_same), hv, ?_⟩
      obtain ⟨wh, hwh, rfl⟩ := List.mem_map.mp hmv
      have m05 := m03.trans B5.2
      refine ⟨_, rfl, _, rfl, _, rfl, _, rfl, m, _, rfl, .inl (SqL.of (B6.same _ _ (m05 _ _ hm))), _, p, _, ((ms.map V.str).length : Int), rfl, B6, by omega, by rw [List.length_map]; omega, by rw [List.length_map]; omega, fun z3 H3 z30 z31 B7 => ?_⟩
      obtain ⟨v3, hv3, hmv3⟩ := atI_in (xs := ms.map V.str) z30 z31
      refine ⟨m, _, z3, v3, rfl, rfl, SqL.of (B7.same _ _ (m05 _ _ hm)), hv3, ?_⟩
      obtain ⟨md, hmd, rfl⟩ := List.mem_map.mp hmv3
      refine ⟨(by show 3 ≤ sizeLine; decide), fun t ht => ?_⟩
      have B8 := B7.new (o := .tup ((["lock", wh, md] : List Str).map V.str)) ht
      refine k _ _ t ["lock", wh, md] (m05.trans B8.2) (B8.1.mono (by omega)) upd_same (by simp) ?_
      intro s hs
      simp only [List.mem_cons, List.not_mem_nil, or_false] at hs
      rcases hs with rfl | rfl | rfl
      · unfold sOk; decide +kernel
      · exact whereOk _ hwh
      · exact hok _ hmd
    · refine ⟨_, rfl, _, p, _, 6, rfl, B4, by omega, by decide, by decide, fun z2 H2 z20 z21 B5 => ⟨rfl, _, rfl, ?_⟩⟩
      refine ite2 (fun c => ?_) (fun c => ?_)
      · refine ⟨(by show 2 ≤ sizeLine; decide), fun l4 hl4 => ?_⟩
        have B6 := B5.new (o := .lst ((["new", "rest"] : List Str).map V.str)) hl4
        refine ⟨_, rfl, _, p, _, 2, rfl, B6.1, by omega, by decide, by decide, fun z3 H3 z30 z31 B7 => ?_⟩
        obtain ⟨v, hv, hmv⟩ := atI_in (xs := (["new", "rest"] : List Str).map V.str) z30 z31
        refine ⟨l4, _, z3, v, rfl, rfl, SqL.of (B7.same _ _ upd_same), hv, ?_⟩
        obtain ⟨wh, hwh, rfl⟩ := List.mem_map.mp hmv
        refine ⟨(by show 2 ≤ sizeLine; decide), fun t ht => ?_⟩
        have B8 := B7.new (o := .tup ((["scan", wh] : List Str).map V.str)) ht
        refine k _ _ t ["scan", wh] (m03.trans (B6.2.trans B8.2)) (B8.1.mono (by omega)) upd_same (by simp) ?_
        intro s hs
        simp only [List.mem_cons, List.not_mem_nil, or_false] at hs
        rcases hs with rfl | rfl
        · unfold sOk; decide +kernel
        · exact scanOk _ hwh
      · refine ⟨_, rfl, _, rfl, _, p, _, 13, rfl, B5, by omega, by decide, by decide, fun z3 H3 z30 z31 B7 => ?_⟩
        obtain ⟨v, hv, hmv⟩ := atI_in (xs := (["look", "again", "border", "key", "put", "claim", "strike", "view", "read", "move", "switch", "wait", "close"] : List Str).map V.str) z30 z31
        refine ⟨l3, _, z3, v, rfl, rfl, SqL.of (B7.same _ _ upd_same), hv, ?_⟩
        obtain ⟨wd, hwd, rfl⟩ := List.mem_map.mp hmv
        refine ⟨(by show 1 ≤ sizeLine; decide), fun t ht => ?_⟩
        have B8 := B7.new (o := .tup (([wd] : List Str).map V.str)) ht
        refine k _ _ t [wd] (m03.trans B8.2) (B8.1.mono (by omega)) upd_same (by simp) ?_
        intro s hs
        rw [List.mem_singleton.mp hs]
        exact plainOk _ hwd
theorem ok_law_count (T : Txt K mg w) : FnOk P w K mg base CX0 1 T.f_law_count T.fd_law_count ["_law_words", "_law_some"] (sp_count K) := by
  refine T.F_law_count.ok sc_law_count (fun vs H Q E h => ?_) (fun cdv A outer s H vs Q E hr h => ?_)
  · obtain ⟨l, m, ws, g, rfl, _⟩ := h
    rfl
  · obtain ⟨l, m, ws, g, rfl, hl, hm, h12, k⟩ := h
    refine ⟨_, (pss_one (ps_ret (pe_callB (id := "len") call_len_seq (by rfl) T.z_len (by decide +kernel) (pa_cons (pe_lc (own := [("_law_word", 2)]) (g := gName 2) rfl sc_law_count.nd (pi_list (pv 0)) (blkOk_by (own := [("_law_word", 2)]) (N := ["_law_words", "_law_some", "_law_word"]) (sc := defScope s_law_count) (by decide +kernel)) (fun _ _ _ _ _ => (pg_name (i := 2) sc_law_count.nd rfl (Or.inl rfl))) (fun _ _ _ _ _ => (pts_one (pt_cmpR (r := rIn K false) op_in_seq (pv 2) (pv 1) (by rfl)))) (fun _ _ _ _ _ => (pv 2))) pa_nil)))), ?_⟩
    refine ⟨_, rfl, l, rfl, ⟨_, SqL.of hl⟩, fun D2 hD2 => ?_⟩
    refine lc_acc walk_list hD2 (fun H' s' => SqL.of (s' _ _ hl)) (fun j => ((ws.take j).filter fun w => decide (w ∈ g)).map V.str) rfl (fun j hj => ?_) ?_ ?_
    · rw [List.length_map]
      refine Nat.lt_of_le_of_lt (List.length_filter_le _ _) ?_
      rw [List.length_take]
      exact Nat.lt_of_le_of_lt (Nat.le_trans (Nat.min_le_right _ _) h12) (by decide)
    · rintro j y H3 hj hy s2 R2 S2 q1 q2
      rw [List.getElem?_map] at hy
      obtain ⟨w0, hw0, rfl⟩ := Option.map_eq_some_iff.mp hy
      refine ⟨rfl, _, rfl, _, rfl, m, _, rfl, .inl (SqL.of (s2 _ _ hm)), rfl, flat_strs g, _, rfl, ?_⟩
      rw [in_strs]
      cases eq : decide (w0 ∈ g) with
      | false => exact iteFe rfl (q2 _ (by rw [List.take_add_one, hw0]; simp [eq]) (Same.refl _))
      | true => exact iteTe rfl ⟨_, rfl, q1 _ _ (by rw [List.take_add_one, hw0]; simp [eq]) (Same.refl _)⟩
    · intro H3 s2 hl3
      have hl3 : H3 D2 = some (.lst (((ws.take (ws.map V.str).length).filter fun w => decide (w ∈ g)).map V.str)) := hl3
      rw [List.length_map, List.take_length] at hl3
      refine ⟨D2, _, rfl, .inl (SqL.of hl3), ?_⟩
      rw [List.length_map]
      exact k _ s2
theorem ok_law_order (T : Txt K mg w) : FnOk P w K mg base CX0 1 T.f_law_order T.fd_law_order ["_law_words", "_law_first", "_law_later"] (sp_order K) := by
  refine T.F_law_order.ok sc_law_order (fun vs H Q E h => ?_) (fun cdv A outer s H vs Q E hr h => ?_)
  · obtain ⟨l, e, f, ws, E', L', rfl, _⟩ := h
    rfl
  · obtain ⟨l, e, f, ws, E', L', rfl, hl, he, hf, h12, k⟩ := h
    refine ⟨_, (pss_cons (ps_set (i := 3) sc_law_order.nd rfl (Or.inr rfl) (pe_lc (own := [("_law_at", 4)]) (g := gName 4) rfl sc_law_order.nd (pi_range1 rfl T.z_range (pa_cons (pe_callB (id := "len") call_len_seq (by rfl) T.z_len (by decide +kernel) (pa_cons (pv 0) pa_nil)) pa_nil)) (blkOk_by (own := [("_law_at", 4)]) (N := ["_law_words", "_law_first", "_law_later", "_law_ends", "_law_at"]) (sc := defScope s_law_order) (by decide +kernel)) (fun _ _ _ _ _ => (pg_name (i := 4) sc_law_order.nd rfl (Or.inl rfl))) (fun _ _ _ _ _ => (pts_one (pt_cmpR (r := rIn K false) op_in_seq (pe_ix (r := rIxL K) ix_list (pv 0) (pv 4) (fun _ _ => rfl)) (pv 1) (by rfl)))) (fun _ _ _ _ _ => (pv 4))))
        (pss_one (ps_ret (pe_cmpR (op_eqD hr.units) (pe_lc (own := [("_law_at", 4)]) (g := gName 4) rfl sc_law_order.nd (pi_range1 rfl T.z_range (pa_cons (pe_callB (id := "len") call_len_seq (by rfl) T.z_len (by decide +kernel) (pa_cons (pv 0) pa_nil)) pa_nil)) (blkOk_by (own := [("_law_at", 4)]) (N := ["_law_words", "_law_first", "_law_later", "_law_ends", "_law_at"]) (sc := defScope s_law_order) (by decide +kernel)) (fun _ _ _ _ _ => (pg_name (i := 4) sc_law_order.nd rfl (Or.inl rfl))) (fun _ _ _ _ _ => (pts_one (PW.pt (pw_and (pt_cmpR (r := rIn K false) op_in_seq (pe_ix (r := rIxL K) ix_list (pv 0) (pv 4) (fun _ _ => rfl)) (pv 2) (by rfl)) (pw_and (pt_cmpR (r := rNeD K) (op_neD hr.units) (pv 3) (pe_lst pa_nil) (nomark _)) (pw_and1 (pt_cmpR op_lt (pv 4) (pe_callB (id := "max") (r := rMax K) (cr_max rfl) (by rfl) T.z_max (by decide +kernel) (pa_cons (pv 3) pa_nil)) (nomark _)))))))) (fun _ _ _ _ _ => (pv 4))) (pe_lst pa_nil) (nomark _))))), ?_⟩
    have at0 : ∀ {i : Nat} {w0 : Str}, ws[i]? = some w0 → atI (ws.map V.str) (0 + (i : Int)) = some (.str w0) := fun {i w0} h => by
      rw [Int.zero_add]
      exact atI_nat (by rw [List.getElem?_map, h]; rfl)
    refine ⟨_, rfl, l, _, rfl, .inl (SqL.of hl), ((ws.map V.str).length : Nat), rfl, by omega, by rw [List.length_map]; omega, fun D hD => ?_⟩
    have en : (((ws.map V.str).length : Nat) : Int).toNat = ws.length := by rw [List.length_map]; omega
    refine lc_acc (n := (((ws.map V.str).length : Nat) : Int).toNat) (item := fun i x => x = V.int (0 + (i : Int))) walk_range hD (fun _ _ => trivial) (fun i => ((poss (fun w => decide (w ∈ E')) ws i).map Int.ofNat).map V.int) rfl (fun i hi => ?_) ?_ ?_
    · rw [List.length_map, List.length_map]
      rw [en] at hi
      have := poss_len (fun w => decide (w ∈ E')) ws i
      exact Nat.lt_of_le_of_lt this (Nat.lt_of_lt_of_le (show i < 100 by omega) (by decide))
    · rintro i x H2 hi rfl s1 R S r1 r2
      rw [en] at hi
      obtain ⟨w0, hw0⟩ : ∃ w0, ws[i]? = some w0 := ⟨_, List.getElem?_eq_getElem hi⟩
      have hp : pAt (fun w => decide (w ∈ E')) ws i = decide (w0 ∈ E') := by
        unfold pAt
        rw [hw0]
      have step := poss_step (fun w => decide (w ∈ E')) ws i
      rw [hp] at step
      refine ⟨rfl, _, rfl, _, rfl, l, _, _, _, rfl, rfl, SqL.of (s1 _ _ hl), at0 hw0, _, rfl, e, _, rfl, .inl (SqL.of (s1 _ _ he)), rfl, flat_strs _, _, rfl, ?_⟩
      rw [in_strs]
      cases eq : decide (w0 ∈ E') with
      | false =>
        rw [eq, if_neg (by decide)] at step
        exact iteFe rfl (r2 _ (by rw [step]) (Same.refl _))
      | true =>
        rw [eq, if_pos rfl] at step
        refine iteTe rfl ⟨_, rfl, r1 _ _ ?_ (Same.refl _)⟩
        rw [step, List.map_append, List.map_append, Int.zero_add]
        rfl
    intro H2 s1 hl2
    have hl2 : H2 D = some (.lst (((poss (fun w => decide (w ∈ E')) ws (((ws.map V.str).length : Nat) : Int).toNat).map Int.ofNat).map V.int)) := hl2
    rw [en] at hl2
    have hl := s1 _ _ hl
    have hf := s1 _ _ hf
    generalize hE : poss (fun w => decide (w ∈ E')) ws ws.length = pe at hl2
    let c : Nat → Bool := fun j => pAt (fun w => decide (w ∈ L')) ws j && decide (∃ i ∈ pe, j < i)
    refine ⟨_, rfl, l, _, rfl, .inl (SqL.of hl), ((ws.map V.str).length : Nat), rfl, by omega, by rw [List.length_map]; omega, fun D2 hD2 => ?_⟩
    refine lc_acc (n := (((ws.map V.str).length : Nat) : Int).toNat) (item := fun i x => x = V.int (0 + (i : Int))) walk_range hD2 (fun _ _ => trivial) (fun i => (((List.range i).filter c).map Int.ofNat).map V.int) rfl (fun i hi => ?_) ?_ ?_
    · rw [List.length_map, List.length_map]
      rw [en] at hi
      have := List.length_filter_le c (List.range i)
      rw [List.length_range] at this
      exact Nat.lt_of_le_of_lt this (Nat.lt_of_lt_of_le (show i < 100 by omega) (by decide))
    · rintro i x H3 hi rfl s2 R S r1 r2
      rw [en] at hi
      obtain ⟨w0, hw0⟩ : ∃ w0, ws[i]? = some w0 := ⟨_, List.getElem?_eq_getElem hi⟩
      have hp : pAt (fun w => decide (w ∈ L')) ws i = decide (w0 ∈ L') := by
        unfold pAt
        rw [hw0]
      have step : (List.range (i + 1)).filter c = if c i = true then (List.range i).filter c ++ [i] else (List.range i).filter c := by
        rw [List.range_succ, List.filter_append]
        cases h : c i with
        | true => simp [h]
        | false => simp [h]
      have hc : c i = (decide (w0 ∈ L') && decide (∃ j ∈ pe, i < j)) := by
        show (pAt (fun w => decide (w ∈ L')) ws i && _) = _
        rw [hp]
      rw [hc] at step
      refine ⟨rfl, _, rfl, _, rfl, l, _, _, _, rfl, rfl, SqL.of (s2 _ _ hl), at0 hw0, _, rfl, f, _, rfl, .inl (SqL.of (s2 _ _ hf)), rfl, flat_strs _, _, rfl, ?_⟩
      rw [in_strs]
      cases eq : decide (w0 ∈ L') with
      | false =>
        rw [eq, Bool.false_and, if_neg (by decide)] at step
        exact iteFe rfl (iteF (r2 _ (by rw [step]) (Same.refl _)))
      | true =>
        rw [eq, Bool.true_and] at step
        refine iteTe rfl ⟨_, rfl, Nat.zero_le _, fun q hq => ?_⟩
        have s3 := same_new (o := .lst []) hq
        have hl3 := s3 _ _ (s2 _ _ hl2)
        refine ⟨_, _, .lst (SqL.of hl3) (dpAll_ints _), .lst (SqL.of upd_same) .nil, ints_shaped _, shaped_nil, _, rfl, ?_⟩
        rw [eqv_nil]
        cases pe with
        | nil =>
          rw [if_neg (by simp)] at step
          exact iteFe rfl (iteF (r2 _ (by rw [step]) s3))
        | cons p0 pr =>
          refine iteTe rfl ⟨_, rfl, _, rfl, D, _, rfl, SqL.of hl3, by simp, fun m hm hmax => ⟨_, _, rfl, rfl, _, rfl, ?_⟩⟩
          have hc2 : decide ((0 : Int) + (i : Int) < m) = decide (∃ j ∈ p0 :: pr, i < j) := by
            rw [Bool.eq_iff_iff, decide_eq_true_iff, decide_eq_true_iff]
            obtain ⟨a, ha, rfl⟩ := List.mem_map.mp hm
            constructor
            · intro h
              refine ⟨a, ha, ?_⟩
              have h' : (0 : Int) + (i : Int) < (a : Int) := h
              omega
            · rintro ⟨j, hj, h⟩
              have := hmax (Int.ofNat j) (List.mem_map.mpr ⟨j, hj, rfl⟩)
              have h' : (j : Int) ≤ (a : Int) := this
              show (0 : Int) + (i : Int) < (a : Int)
              omega
          rw [hc2]
          cases e5 : decide (∃ j ∈ p0 :: pr, i < j) with
          | false =>
            rw [e5, if_neg (by decide)] at step
            exact iteF (r2 _ (by rw [step]) s3)
          | true =>
            rw [e5, if_pos rfl] at step
            refine iteT ⟨_, rfl, r1 _ _ ?_ s3⟩
            rw [step, List.map_append, List.map_append, Int.zero_add]
            rfl
    · intro H3 s2 hl3
      have hl3 : H3 D2 = some (.lst ((((List.range (((ws.map V.str).length : Nat) : Int).toNat).filter c).map Int.ofNat).map V.int)) := hl3
      rw [en] at hl3
      refine ⟨Nat.zero_le _, fun q hq => ?_⟩
      have s3 := same_new (o := .lst []) hq
      refine ⟨_, _, .lst (SqL.of (s3 _ _ hl3)) (dpAll_ints _), .lst (SqL.of upd_same) .nil, ints_shaped _, shaped_nil, ?_⟩
      rw [eqv_nil]
      have eb : ((((List.range ws.length).filter c).map Int.ofNat).map PyData.int).isEmpty = befL ws E' L' := by
        rw [List.isEmpty_map, List.isEmpty_map]
        unfold befL
        rw [hE, Bool.eq_iff_iff, List.isEmpty_iff, List.filter_eq_nil_iff, decide_eq_true_iff]
        constructor
        · intro h i hi j hj
          have hj' : j ∈ List.range ws.length ∧ pAt (fun w => decide (w ∈ L')) ws j = true := List.mem_filter.mp hj
          have := h j hj'.1
          have h2 : ¬ (pAt (fun w => decide (w ∈ L')) ws j && decide (∃ i ∈ pe, j < i)) = true := this
          rw [hj'.2, Bool.true_and, decide_eq_true_iff] at h2
          exact Nat.le_of_not_lt fun q => h2 ⟨i, hi, q⟩
        · intro h j hj hc
          have hc : (pAt (fun w => decide (w ∈ L')) ws j && decide (∃ i ∈ pe, j < i)) = true := hc
          rw [Bool.and_eq_true, decide_eq_true_iff] at hc
          obtain ⟨h1, i, hi, hlt⟩ := hc
          have := h i hi j (List.mem_filter.mpr ⟨hj, h1⟩)
          omega
      rw [eb]
      exact k _ (s1.trans (s2.trans s3))
theorem ok_law_is_program (T : Txt K mg w) : FnOk P w K mg base CX0 3 T.f_law_is_program T.fd_law_is_program ["_law_value", "_law_kind"] (sp_law_is_program K) := by
  refine T.F_law_is_program.ok sc_law_is_program (fun vs H Q E h => ?_) (fun cdv A outer s H vs Q E hr h => ?_)
  · obtain ⟨v, o, kd, rfl, _⟩ := h
    rfl
  · obtain ⟨v, o, kd, rfl, hv, hok, hk, k⟩ := h
    refine ⟨_, (pss_cons (ps_if (PW.pt (pw_or (pt_not (pt_val (pe_callB (id := "isinstance") call_isi (by rfl) T.z_isinstance (by decide +kernel) (pa_cons (pv 0) (pa_cons (pe_bltn (v := .ty "list") (u := .type "list") (by rfl) T.z_list (by decide +kernel) rfl) pa_nil))))) (pw_or (pt_cmpR op_lt (pe_callB (id := "len") call_len_seq (by rfl) T.z_len (by decide +kernel) (pa_cons (pv 0) pa_nil)) pe_int (nomark _)) (pw_or1 (pt_cmpR op_gt (pe_callB (id := "len") call_len_seq (by rfl) T.z_len (by decide +kernel) (pa_cons (pv 0) pa_nil)) pe_int (nomark _)))))) (pss_one (ps_ret pe_bl)) pss_nil)
        (pss_cons (ps_if (pt_cmpR (op_neD hr.units) (pe_lc (own := [("_law_step", 6)]) (g := gName 6) rfl sc_law_is_program.nd (pi_list (pv 0)) (blkOk_by (own := [("_law_step", 6)]) (N := ["_law_value", "_law_kind", "_law_words", "_law_last", "_law_deeds", "_law_scans", "_law_step", "_law_at"]) (sc := defScope s_law_is_program) (by decide +kernel)) (fun _ _ _ _ _ => (pg_name (i := 6) sc_law_is_program.nd rfl (Or.inl rfl))) (fun _ _ _ _ _ => (pts_one (pt_not (pt_val (pe_call (ok_law_is_step T) hr rfl T.m_law_is_step T.F_law_is_step.kp T.b_law_is_step .nil pass0 (pa_cons (pv 6) (pa_cons (pv 1) pa_nil))))))) (fun _ _ _ _ _ => (pv 6))) (pe_lst pa_nil) (nomark _)) (pss_one (ps_ret pe_bl)) pss_nil)
        (pss_cons (ps_setLc (i := 2) (own := [("_law_step", 6)]) (g := gName 6) (tt := tYes) rfl sc_law_is_program.nd rfl rfl (sw_true rfl rfl rfl (by decide +kernel)) (pi_list (pv 0)) (blkOk_by (own := [("_law_step", 6)]) (N := ["_law_value", "_law_kind", "_law_words", "_law_last", "_law_deeds", "_law_scans", "_law_step", "_law_at"]) (sc := defScope s_law_is_program) (by decide +kernel)) (fun _ _ _ _ _ => (pg_name (i := 6) sc_law_is_program.nd rfl (Or.inl rfl))) (fun _ _ _ _ _ => pts_nil) (fun _ _ _ _ _ => (pe_ifExp (pt_cmpR (r := rEqD K) (op_eqD hr.units) (pe_slice (r := rSlA K) sl_tupA (pv 6) po_none (po_some pe_int)) (pe_tup (pa_cons pe_str (pa_cons pe_str pa_nil))) (nomark _)) pe_str (pe_ix (r := rIxT K) ix_tup (pv 6) pe_int (fun _ _ => rfl)))))
        (C8.pss_cut (ps_set (i := 3) sc_law_is_program.nd rfl (Or.inl rfl) (pe_ifExp (pt_cmpR op_in_seq (pv 1) (pe_slice sl_list (pe_call0 (ok_law_kinds T) (hr.mono (by decide)) rfl T.m_law_kinds T.F_law_kinds.kp T.b_law_kinds .nil pass0) po_none (po_some pe_int)) (by rfl)) (pe_lst (pa_cons pe_str pa_nil)) (pe_lst (pa_cons pe_str (pa_cons pe_str pa_nil)))))
        (pss_cons (ps_if (PW.pt (pw_or (pt_cmpR op_notIn_seq (pe_ix ix_list (pv 2) (pe_un un_neg pe_int) (fun _ _ => rfl)) (pv 3) (by rfl)) (pw_or1 (pt_cmpR op_gt (pe_call (ok_law_count T) (hr.mono (by decide)) rfl T.m_law_count T.F_law_count.kp T.b_law_count .nil pass0 (pa_cons (pe_slice sl_list (pv 2) po_none (po_some (pe_un un_neg pe_int))) (pa_cons (pe_lst (pa_cons pe_str (pa_cons pe_str pa_nil))) pa_nil))) pe_int (nomark _))))) (pss_one (ps_ret pe_bl)) pss_nil)
        (pss_cons (ps_set (i := 4) sc_law_is_program.nd rfl (Or.inl rfl) (pe_lst (pa_cons pe_str (pa_cons pe_str (pa_cons pe_str (pa_cons pe_str pa_nil))))))
        (pss_cons (ps_if (pt_cmpR op_in_seq (pv 1) (pe_slice sl_list (pe_call0 (ok_law_kinds T) (hr.mono (by decide)) rfl T.m_law_kinds T.F_law_kinds.kp T.b_law_kinds .nil pass0) po_none (po_some pe_int)) (by rfl)) (pss_cons (ps_if (PW.pt (pw_or (pt_cmpR op_ne (pe_call (ok_law_count T) (hr.mono (by decide)) rfl T.m_law_count T.F_law_count.kp T.b_law_count .nil pass0 (pa_cons (pv 2) (pa_cons (pv 4) pa_nil))) pe_int (nomark _)) (pw_or (pt_cmpR op_gt (pe_call (ok_law_count T) (hr.mono (by decide)) rfl T.m_law_count T.F_law_count.kp T.b_law_count .nil pass0 (pa_cons (pv 2) (pa_cons (pe_lst (pa_cons pe_str pa_nil)) pa_nil))) pe_int (nomark _)) (pw_or1 (pt_cmpR op_gt (pe_call (ok_law_count T) (hr.mono (by decide)) rfl T.m_law_count T.F_law_count.kp T.b_law_count .nil pass0 (pa_cons (pv 2) (pa_cons (pe_lst (pa_cons pe_str pa_nil)) pa_nil))) pe_int (nomark _)))))) (pss_one (ps_ret pe_bl)) pss_nil)
        (pss_cons (ps_if (pt_not (pt_val (pe_call (ok_law_order T) (hr.mono (by decide)) rfl T.m_law_order T.F_law_order.kp T.b_law_order .nil pass0 (pa_cons (pv 2) (pa_cons (pe_lst (pa_cons pe_str (pa_cons pe_str (pa_cons pe_str (pa_cons pe_str pa_nil))))) (pa_cons (pv 4) pa_nil)))))) (pss_one (ps_ret pe_bl)) pss_nil)
        (pss_cons (ps_if (pt_cmpR op_eq (pv 1) pe_str (nomark _)) (pss_one (ps_ret pe_bl)) pss_nil)
        (pss_cons (ps_if (PW.pt (pw_or (pt_cmpR op_ne (pe_call (ok_law_count T) (hr.mono (by decide)) rfl T.m_law_count T.F_law_count.kp T.b_law_count .nil pass0 (pa_cons (pv 2) (pa_cons (pe_lst (pa_cons pe_str pa_nil)) pa_nil))) pe_int (nomark _)) (pw_or1 (PW.pt (pw_and (pt_cmpR op_eq (pv 1) pe_str (nomark _)) (pw_and1 (pt_cmpR op_ne (pe_call (ok_law_count T) (hr.mono (by decide)) rfl T.m_law_count T.F_law_count.kp T.b_law_count .nil pass0 (pa_cons (pv 2) (pa_cons (pe_lst (pa_cons pe_str pa_nil)) pa_nil))) pe_int (nomark _)))))))) (pss_one (ps_ret pe_bl)) pss_nil)
        (pss_one (ps_ret (pe_call (ok_law_order T) (hr.mono (by decide)) rfl T.m_law_order T.F_law_order.kp T.b_law_order .nil pass0 (pa_cons (pv 2) (pa_cons (pe_lst (pa_cons pe_str pa_nil)) (pa_cons (pe_op op_cat (pe_lst (pa_cons pe_str (pa_cons pe_str (pa_cons pe_str pa_nil)))) (pv 4)) pa_nil)))))))))) pss_nil)
        (pss_cons (ps_if (PW.pt (pw_or (pt_cmpR op_ne (pe_call (ok_law_count T) (hr.mono (by decide)) rfl T.m_law_count T.F_law_count.kp T.b_law_count .nil pass0 (pa_cons (pv 2) (pa_cons (pe_lst (pa_cons pe_str (pa_cons pe_str pa_nil))) pa_nil))) pe_int (nomark _)) (pw_or1 (pt_not (pt_val (pe_call (ok_law_order T) (hr.mono (by decide)) rfl T.m_law_order T.F_law_order.kp T.b_law_order .nil pass0 (pa_cons (pv 2) (pa_cons (pe_lst (pa_cons pe_str (pa_cons pe_str pa_nil))) (pa_cons (pe_lst (pa_cons pe_str (pa_cons pe_str pa_nil))) pa_nil))))))))) (pss_one (ps_ret pe_bl)) pss_nil)
        (C8.pss_cut (ps_if (PW.pt (pw_or (pt_not (pt_val (pe_call (ok_law_order T) (hr.mono (by decide)) rfl T.m_law_order T.F_law_order.kp T.b_law_order .nil pass0 (pa_cons (pv 2) (pa_cons (pe_lst (pa_cons pe_str (pa_cons pe_str pa_nil))) (pa_cons (pe_lst (pa_cons pe_str pa_nil)) pa_nil)))))) (pw_or1 (PW.pt (pw_and (pt_cmpR op_in_seq pe_str (pv 2) (by rfl)) (pw_and1 (pt_cmpR op_in_seq pe_str (pv 2) (by rfl)))))))) (pss_one (ps_ret pe_bl)) pss_nil)
        (C8.pss_cut (ps_if (PW.pt (pw_and (pt_cmpR op_in_seq (pv 1) (pe_lst (pa_cons pe_str (pa_cons pe_str pa_nil))) (by rfl)) (pw_and1 (pt_cmpR op_ne (pe_call (ok_law_count T) (hr.mono (by decide)) rfl T.m_law_count T.F_law_count.kp T.b_law_count .nil pass0 (pa_cons (pv 2) (pa_cons (pe_lst (pa_cons pe_str pa_nil)) pa_nil))) pe_int (nomark _))))) (pss_one (ps_ret pe_bl)) pss_nil)
        (pss_cons (ps_set (i := 5) sc_law_is_program.nd rfl (Or.inr rfl) (pe_lc (own := [("_law_step", 6)]) (g := gName 6) rfl sc_law_is_program.nd (pi_list (pv 0)) (blkOk_by (own := [("_law_step", 6)]) (N := ["_law_value", "_law_kind", "_law_words", "_law_last", "_law_deeds", "_law_scans", "_law_step", "_law_at"]) (sc := defScope s_law_is_program) (by decide +kernel)) (fun _ _ _ _ _ => (pg_name (i := 6) sc_law_is_program.nd rfl (Or.inl rfl))) (fun _ _ _ _ _ => (pts_one (pt_cmpR op_eq (pe_ix (r := rIxT K) ix_tup (pv 6) pe_int (fun _ _ => rfl)) pe_str (nomark _)))) (fun _ _ _ _ _ => (pv 6))))
        (pss_one (ps_ret (pe_cmpR (op_eqD hr.units) (pe_lc (own := [("_law_at", 7)]) (g := gName 7) rfl sc_law_is_program.nd (pi_range1 rfl T.z_range (pa_cons (pe_callB (id := "len") call_len_seq (by rfl) T.z_len (by decide +kernel) (pa_cons (pv 5) pa_nil)) pa_nil)) (blkOk_by (own := [("_law_at", 7)]) (N := ["_law_value", "_law_kind", "_law_words", "_law_last", "_law_deeds", "_law_scans", "_law_step", "_law_at"]) (sc := defScope s_law_is_program) (by decide +kernel)) (fun _ _ _ _ _ => (pg_name (i := 7) sc_law_is_program.nd rfl (Or.inl rfl))) (fun _ _ _ _ _ => (pts_one (pt_cmpR (r := rInD K) (op_inD (u65 hr)) (pe_ix (r := rIxL K) ix_list (pv 5) (pv 7) (fun _ _ => rfl)) (pe_slice (r := rSlL K) sl_list (pv 5) po_none (po_some (pv 7))) (by rfl)))) (fun _ _ _ _ _ => (pv 7))) (pe_lst pa_nil) (nomark _))))))))))))))), ?_⟩
    have ty := hv.ty
    refine ⟨_, rfl, _, _, _, _, _, rfl, .ty _, ty, kit_oL o, _, rfl, ?_⟩
    cases e : isT "list" o with
    | false =>
      rw [progO_ty e] at k
      exact iteT (iteT (k H (Same.refl H)))
    | true =>
    obtain ⟨a, xs, ds, rfl, rfl, hL, hD, hsh⟩ := hv.lst_of e
    have hlen := dpAll_len hD
    have hb := hok _ rfl
    have k : ∀ H', Same H H' → Q (.bl (progD kd ds)) H' := k
    refine iteF ⟨_, rfl, _, _, rfl, .inl hL, _, _, rfl, rfl, _, rfl, ?_⟩
    by_cases c1 : 1 ≤ ds.length
    rotate_left
    · have k : ∀ H', Same H H' → Q (.bl false) H' := fun H' s' => by
        have := k H' s'
        unfold progD at this
        rw [decide_eq_false (fun q => c1 q.1)] at this
        exact this
      exact iteTe (decide_eq_true (by rw [hlen]; omega)) (iteT (k H (Same.refl H)))
    refine iteFe (decide_eq_false (by rw [hlen]; omega)) ⟨_, rfl, _, _, rfl, .inl hL, _, _, rfl, rfl, _, rfl, ?_⟩
    by_cases c2 : ds.length ≤ 12
    rotate_left
    · have k : ∀ H', Same H H' → Q (.bl false) H' := fun H' s' => by
        have := k H' s'
        unfold progD at this
        rw [decide_eq_false (fun q => c2 q.2)] at this
        exact this
      exact iteTe (decide_eq_true (by rw [hlen]; omega)) (k H (Same.refl H))
    refine iteFe (decide_eq_false (by rw [hlen]; omega)) ?_
    have k : ∀ H', Same H H' → Q (.bl ((ds.all fun d => stepO kd (some d)) && wordsB kd (ds.map wD))) H' := fun H' s' => by
      have := k H' s'
      unfold progD at this
      rw [decide_eq_true (⟨c1, c2⟩ : 1 ≤ ds.length ∧ ds.length ≤ 12)] at this
      exact this
    refine ⟨_, rfl, a, rfl, ⟨_, hL⟩, fun D hD1 => ?_⟩
    refine lc_acc walk_list hD1 (fun H' s' => s'.seq hL) (fun i => filtG (fun d => !stepO kd (some d)) (xs.take i) (ds.take i)) rfl (fun i hi => Nat.lt_of_le_of_lt (filtG_len _ _ _) ?_) ?_ ?_
    · rw [List.length_take]
      exact Nat.lt_of_le_of_lt (Nat.le_trans (Nat.min_le_right _ _) (by rw [hlen]; exact c2)) (by decide)
    · rintro i x H2 hi hx s1 R S r1 r2
      obtain ⟨dx, hdx, vx⟩ := dpAll_get hD hx
      have hm := List.mem_of_getElem? hdx
      have step := filtG_step (f := fun d => !stepO kd (some d)) hx hdx
      refine ⟨rfl, _, rfl, _, rfl, x, some dx, kd, rfl, .dat (dp_mono s1 vx) (shaped_item (shaped_of_list hsh hm)) (hb.2 _ hm).2, (hb.2 _ hm).1, hk, fun H3 s3 => ⟨_, rfl, ?_⟩⟩
      cases q : stepO kd (some dx) with
      | true =>
        rw [q, if_neg (by decide)] at step
        exact iteF (r2 _ step s3)
      | false =>
        rw [q, if_pos (by decide)] at step
        exact iteT ⟨_, rfl, r1 _ _ step s3⟩
    intro H2 s1 hl2
    have hl2 : H2 D = some (.lst (filtG (fun d => !stepO kd (some d)) (xs.take xs.length) (ds.take xs.length))) := hl2
    rw [List.take_length, hlen, List.take_length] at hl2
    refine ⟨Nat.zero_le _, fun q hq => ?_⟩
    have s2 := same_new (o := .lst []) hq
    have sC := s1.trans s2
    refine ⟨_, _, .lst (SqL.of (s2 _ _ hl2)) (filtG_dp (dpAll_mono sC hD)), .lst (SqL.of upd_same) .nil, shaped_list (n := 63) (by decide) (fun d hd => shaped_of_list hsh (List.mem_filter.mp hd).1), shaped_nil, _, rfl, ?_⟩
    rw [eqv_nil]
    cases e1 : ds.all fun d => stepO kd (some d) with
    | false =>
      rw [e1] at k
      have ne : (ds.filter fun d => !stepO kd (some d)).isEmpty = false := by
        rw [Bool.eq_false_iff]
        intro h
        rw [List.isEmpty_iff, List.filter_eq_nil_iff] at h
        have : (ds.all fun d => stepO kd (some d)) = true := List.all_eq_true.mpr fun d hd => by simpa using h d hd
        rw [this] at e1
        cases e1
      rw [ne]
      exact iteT (k _ sC)
    | true =>
    rw [e1] at k
    have em : (ds.filter fun d => !stepO kd (some d)).isEmpty = true := by
      rw [List.isEmpty_iff, List.filter_eq_nil_iff]
      intro d hd
      simpa using List.all_eq_true.mp e1 d hd
    rw [em]
    refine iteF ?_
    obtain ⟨sss, rfl, hval⟩ := valid_strs fun d hd => List.all_eq_true.mp e1 d hd
    rw [List.length_map] at c1 c2 hlen
    have h0 : sss ≠ [] := fun e => by rw [e] at c1; cases c1
    have ew : (sss.map strsD).map wD = sss.map fun ss => w1 (ss.take 2) := by
      rw [List.map_map]
      exact List.map_congr_left fun ss _ => wD_strs ss
    rw [ew, words_law hk hval h0] at k
    have k : ∀ H', Same (upd H2 q (.lst [])) H' → Q (.bl (lawE kd sss)) H' := fun H' s' => k H' (sC.trans s')
    have hL := sC.seq hL
    have hD := dpAll_mono sC hD
    clear hv ty em ew e1 e hl2 hD1 s1 s2 hok
    generalize upd H2 q (.lst []) = G at k hL hD ⊢
    -- words
    refine ⟨_, rfl, a, rfl, ⟨_, hL⟩, fun D2 hD2 => ?_⟩
    refine lc_acc walk_list hD2 (fun H' s' => s'.seq hL) (fun i => (sss.take i).map fun ss => V.str (w2 (ss.take 2))) rfl (fun i hi => ?_) ?_ ?_
    · rw [List.length_map, List.length_take]
      exact Nat.lt_of_le_of_lt (Nat.le_trans (Nat.min_le_right _ _) c2) (by decide)
    · rintro i x H3 hi hx s2 R S r1 r2
      obtain ⟨dx, hdx, vx⟩ := dpAll_get hD hx
      rw [List.getElem?_map] at hdx
      obtain ⟨ss, hss, rfl⟩ := Option.map_eq_some_iff.mp hdx
      have hms := List.mem_of_getElem? hss
      obtain ⟨b, rfl, hb'⟩ := dp_strsT (dp_mono s2 vx)
      have hm : strsD ss ∈ sss.map strsD := List.mem_map.mpr ⟨ss, hms, rfl⟩
      have hne := step_ne hk (hval ss hms)
      have hsp := shaped_of_list hsh hm
      have sht : SeqAt.shaped (strsD (ss.take 2)) = true := strsD_shaped fun s hs => shaped_item (shaped_of_tuple (shaped_item hsp) (List.mem_map.mpr ⟨s, List.mem_of_mem_take hs, rfl⟩))
      have nx : (sss.take (i + 1)).map (fun ss => V.str (w2 (ss.take 2))) = ((sss.take i).map fun ss => V.str (w2 (ss.take 2))) ++ [V.str (w2 (ss.take 2))] := by
        rw [List.take_add_one, hss]
        show List.map _ (_ ++ [ss]) = _
        rw [List.map_append]
        rfl
      have hd0 : atI (ss.map V.str) 0 = some (.str ((ss.take 2).headD "")) := by
        cases ss with
        | nil => exact absurd rfl hne
        | cons w r => exact atI_nat (j := 0) rfl
      have lp : (["lock", "part"] : List Str).map V.str = [.str "lock", .str "part"] := rfl
      refine ⟨rfl, tyes ⟨_, rfl, 2, rfl, b, _, rfl, hb', fun wh => ?_, fun nw p hp => ?_⟩⟩
      · have e2 := whole2 wh.2
        refine ⟨(by show 2 ≤ sizeLine; decide), fun t ht => ?_⟩
        have s3 := same_new (o := .tup [.str "lock", .str "part"]) ht
        refine ⟨strsD (ss.take 2), strsD ["lock", "part"], .tup (by rw [e2]; exact same_t s3 hb') (dpAll_strs _), .tup (SqT.of upd_same) (dpAll_strs ["lock", "part"]), sht, by decide +kernel, _, rfl, ?_⟩
        rw [eqv_strsD]
        by_cases c : ss.take 2 = (["lock", "part"] : List Str)
        · refine iteTe (decide_eq_true c) (r1 _ _ ?_ s3)
          rw [nx, show w2 (ss.take 2) = "part" from if_pos c]
        · refine iteFe (decide_eq_false c) ⟨_, rfl, b, _, _, _, rfl, rfl, same_t s3 hb', hd0, r1 _ _ ?_ s3⟩
          rw [nx, show w2 (ss.take 2) = (ss.take 2).headD "" from if_neg c]
      · rw [cut_take2]
        have s4 := same_new (o := .tup ((ss.take 2).map V.str)) hp
        refine ⟨(by show 2 ≤ sizeLine; decide), fun t ht => ?_⟩
        have s3 := same_new (o := .tup [.str "lock", .str "part"]) ht
        refine ⟨strsD (ss.take 2), strsD ["lock", "part"], .tup (SqT.of (s3 _ _ upd_same)) (dpAll_strs _), .tup (SqT.of upd_same) (dpAll_strs ["lock", "part"]), sht, by decide +kernel, _, rfl, ?_⟩
        rw [eqv_strsD]
        by_cases c : ss.take 2 = (["lock", "part"] : List Str)
        · refine iteTe (decide_eq_true c) (r1 _ _ ?_ (s4.trans s3))
          rw [nx, show w2 (ss.take 2) = "part" from if_pos c]
        · refine iteFe (decide_eq_false c) ⟨_, rfl, b, _, _, _, rfl, rfl, same_t (s4.trans s3) hb', hd0, r1 _ _ ?_ (s4.trans s3)⟩
          rw [nx, show w2 (ss.take 2) = (ss.take 2).headD "" from if_neg c]
    intro H3 s2 hl3
    have hl3 : H3 D2 = some (.lst ((sss.take xs.length).map fun ss => V.str (w2 (ss.take 2)))) := hl3
    rw [hlen, List.take_length] at hl3
    have hW : H3 D2 = some (.lst ((lawW sss).map V.str)) := by
      rw [hl3]
      unfold lawW
      rw [List.map_map]
      rfl
    have k : ∀ H', Same H3 H' → Q (.bl (lawE kd sss)) H' := fun H' s' => k H' (s2.trans s')
    have hL := s2.seq hL
    have hD := dpAll_mono s2 hD
    have W1 : 1 ≤ (lawW sss).length := by unfold lawW; rw [List.length_map]; exact c1
    have W12 : (lawW sss).length ≤ 12 := by unfold lawW; rw [List.length_map]; exact c2
    have Wne : lawW sss ≠ [] := fun e => by rw [e] at W1; cases W1
    -- last
    refine ⟨fun σ H' => ∃ la : Addr, σ = [some (.ref a), some (.str kd), some (.ref D2), some (.ref la), none, none, none, none] ∧ Same H3 H' ∧ H' la = some (.lst ((lastL kd).map V.str)), ?_, ?_⟩
    · refine ⟨_, rfl, rfl, fun l4 hl4 => ?_⟩
      have s4 := same_new (o := .lst (kindsL.map V.str)) hl4
      refine ⟨4, rfl, l4, _, rfl, SqL.of upd_same, fun l5 hl5 => ?_⟩
      have s5 := same_new (o := .lst (cutV (kindsL.map V.str) none (some 4))) hl5
      refine ⟨l5, _, rfl, .inl (SqL.of upd_same), rfl, rfl, _, rfl, ?_⟩
      rw [kinds4]
      by_cases c : kd ∈ firstK
      · refine iteTe (decide_eq_true c) ⟨(by show 1 ≤ sizeLine; decide), fun la hla => ?_⟩
        exact ⟨la, rfl, s4.trans (s5.trans (same_new hla)), by rw [upd_same]; unfold lastL; rw [if_pos c]; rfl⟩
      · refine iteFe (decide_eq_false c) ⟨(by show 2 ≤ sizeLine; decide), fun la hla => ?_⟩
        exact ⟨la, rfl, s4.trans (s5.trans (same_new hla)), by rw [upd_same]; unfold lastL; rw [if_neg c]; rfl⟩
    rintro σ H4 ⟨la, rfl, s4, hla⟩
    have hW := s4 _ _ hW
    have k : ∀ H', Same H4 H' → Q (.bl (lawE kd sss)) H' := fun H' s' => k H' (s4.trans s')
    have hL := s4.seq hL
    have hD := dpAll_mono s4 hD
    unfold lawE at k
    refine ⟨_, rfl, _, rfl, D2, _, -1, _, rfl, rfl, SqL.of hW, at_last Wne, _, rfl, la, _, rfl, .inl (SqL.of hla), rfl, flat_strs _, _, rfl, ?_⟩
    rw [in_strs]
    have k : ∀ H', Same H4 H' → Q (.bl (decide ((lawW sss).getLastD "" ∈ lastL kd) && _)) H' := k
    by_cases q0 : (lawW sss).getLastD "" ∈ lastL kd
    rotate_left
    · rw [decide_eq_false q0] at k
      exact iteTe (by rw [decide_eq_false q0]; rfl) (iteT (k _ (Same.refl _)))
    rw [decide_eq_true q0] at k
    refine iteFe (by rw [decide_eq_true q0]; rfl) ⟨_, rfl, _, rfl, _, rfl, D2, _, rfl, SqL.of hW, fun l5 hl5 => ?_⟩
    have s5 := same_new (o := .lst (cutV ((lawW sss).map V.str) none (some (-1)))) hl5
    refine ⟨(by show 2 ≤ sizeLine; decide), fun m6 hm6 => ⟨l5, m6, (lawW sss).dropLast, (["end", "close"] : List Str), rfl, same_new hm6 _ _ (by rw [upd_same, cut_last]), upd_same, by rw [List.length_dropLast]; omega, fun H6 s6 => ⟨_, _, rfl, rfl, _, rfl, ?_⟩⟩⟩
    have s6 := s5.trans ((same_new hm6).trans s6)
    have hW := s6 _ _ hW
    have hL := s6.seq hL
    have hD := dpAll_mono s6 hD
    have k := fun H' (s' : Same H6 H') => k H' (s6.trans s')
    by_cases q1 : cntG ["end", "close"] (lawW sss).dropLast = 0
    rotate_left
    · rw [decide_eq_false q1] at k
      exact iteTe (decide_eq_true (by omega)) (k _ (Same.refl _))
    rw [decide_eq_true q1] at k
    refine iteFe (decide_eq_false (by omega)) ⟨(by show 4 ≤ sizeLine; decide), fun ld hm7 => ?_⟩
    have s7 := same_new (o := .lst (deedsL.map V.str)) hm7
    have hld : _ = some (HO.lst (deedsL.map V.str)) := upd_same (H := H6) (a := ld) (o := .lst (deedsL.map V.str))
    have hW := s7 _ _ hW
    have hL := s7.seq hL
    have hD := dpAll_mono s7 hD
    have k := fun H' (s' : Same (upd H6 ld (.lst (deedsL.map V.str))) H') => k H' (s7.trans s')
    refine ⟨_, rfl, rfl, fun l8 hl8 => ⟨4, rfl, l8, _, rfl, SqL.of upd_same, fun l9 hl9 => ⟨l9, _, rfl, .inl (SqL.of upd_same), rfl, rfl, _, rfl, ?_⟩⟩⟩
    have s9 := (same_new (o := .lst (kindsL.map V.str)) hl8).trans (same_new (o := .lst (cutV (kindsL.map V.str) none (some 4))) hl9)
    have hld := s9 _ _ hld
    have hW := s9 _ _ hW
    have hL := s9.seq hL
    have hD := dpAll_mono s9 hD
    have k := fun H' s' => k H' (s9.trans s')
    rw [kinds4]
    by_cases c : kd ∈ firstK
    · rw [if_pos c] at k
      refine iteTe (decide_eq_true c) ⟨_, rfl, _, rfl, D2, ld, lawW sss, deedsL, rfl, hW, hld, W12, fun H10 s10 => ⟨rfl, _, rfl, ?_⟩⟩
      have s10 := s10
      have hW := s10 _ _ hW
      have hld := s10 _ _ hld
      have hL := s10.seq hL
      have hD := dpAll_mono s10 hD
      have k := fun H' (s' : Same H10 H') => k H' (s10.trans s')
      rw [ne1]
      by_cases q2 : cntG deedsL (lawW sss) = 1
      rotate_left
      · rw [decide_eq_false q2] at k
        exact iteTe (by rw [decide_eq_false q2]; rfl) (iteT (k _ (Same.refl _)))
      rw [decide_eq_true q2] at k
      refine iteFe (by rw [decide_eq_true q2]; rfl) ⟨_, rfl, (by show 1 ≤ sizeLine; decide), fun m11 hm11 => ⟨D2, m11, lawW sss, (["border"] : List Str), rfl, same_new hm11 _ _ hW, upd_same, W12, fun H11 s11 => ⟨_, _, rfl, rfl, _, rfl, ?_⟩⟩⟩
      have s11 := (same_new hm11).trans s11
      have hW := s11 _ _ hW
      have hld := s11 _ _ hld
      have hL := s11.seq hL
      have hD := dpAll_mono s11 hD
      have k := fun H' (s' : Same H11 H') => k H' (s11.trans s')
      by_cases q3 : cntG ["border"] (lawW sss) ≤ 1
      rotate_left
      · rw [decide_eq_false q3] at k
        exact iteTe (decide_eq_true (by omega)) (iteT (k _ (Same.refl _)))
      rw [decide_eq_true q3] at k
      refine iteFe (decide_eq_false (by omega)) ⟨_, rfl, (by show 1 ≤ sizeLine; decide), fun m12 hm12 => ⟨D2, m12, lawW sss, (["key"] : List Str), rfl, same_new hm12 _ _ hW, upd_same, W12, fun H12 s12 => ⟨_, _, rfl, rfl, _, rfl, ?_⟩⟩⟩
      have s12 := (same_new hm12).trans s12
      have hW := s12 _ _ hW
      have hld := s12 _ _ hld
      have hL := s12.seq hL
      have hD := dpAll_mono s12 hD
      have k := fun H' (s' : Same H12 H') => k H' (s12.trans s')
      by_cases q4 : cntG ["key"] (lawW sss) ≤ 1
      rotate_left
      · rw [decide_eq_false q4] at k
        exact iteTe (decide_eq_true (by omega)) (k _ (Same.refl _))
      rw [decide_eq_true q4] at k
      refine iteFe (decide_eq_false (by omega)) ⟨_, rfl, (by show 4 ≤ sizeLine; decide), fun m13 hm13 => ⟨_, rfl, D2, m13, ld, lawW sss, (["border", "key", "again", "view"] : List Str), deedsL, rfl, same_new hm13 _ _ hW, upd_same, same_new hm13 _ _ hld, W12, fun H13 s13 => ⟨_, rfl, ?_⟩⟩⟩
      have s13 := (same_new hm13).trans s13
      have hW := s13 _ _ hW
      have hld := s13 _ _ hld
      have hL := s13.seq hL
      have hD := dpAll_mono s13 hD
      have k := fun H' (s' : Same H13 H') => k H' (s13.trans s')
      cases q5 : befL (lawW sss) ["border", "key", "again", "view"] deedsL with
      | false =>
        rw [q5] at k
        exact iteT (k _ (Same.refl _))
      | true =>
      rw [q5] at k
      refine iteF ⟨_, rfl, rfl, _, rfl, ?_⟩
      rw [dec_str]
      by_cases d1 : kd = ("direct" : Str)
      · rw [if_pos d1] at k
        refine iteTe (by rw [d1]; rfl) (k _ (Same.refl _))
      rw [if_neg d1] at k
      refine iteFe (beq_eq_false_iff_ne.mpr d1) ⟨_, rfl, (by show 1 ≤ sizeLine; decide), fun m15 hm15 => ⟨D2, m15, lawW sss, (["look"] : List Str), rfl, same_new hm15 _ _ hW, upd_same, W12, fun H15 s15 => ⟨rfl, _, rfl, ?_⟩⟩⟩
      have s15 := (same_new hm15).trans s15
      have hW := s15 _ _ hW
      have hld := s15 _ _ hld
      have hL := s15.seq hL
      have hD := dpAll_mono s15 hD
      have k := fun H' (s' : Same H15 H') => k H' (s15.trans s')
      rw [ne1]
      by_cases q6 : cntG ["look"] (lawW sss) = 1
      rotate_left
      · rw [decide_eq_false q6] at k
        exact iteTe (by rw [decide_eq_false q6]; rfl) (iteT (k _ (Same.refl _)))
      rw [decide_eq_true q6] at k
      refine iteFe (by rw [decide_eq_true q6]; rfl) ⟨_, rfl, rfl, _, rfl, ?_⟩
      rw [dec_str]
      by_cases d2 : kd = ("read" : Str)
      · rw [if_pos d2] at k
        refine iteTe (by rw [d2]; rfl) ⟨_, rfl, (by show 1 ≤ sizeLine; decide), fun m16 hm16 => ⟨D2, m16, lawW sss, (["view"] : List Str), rfl, same_new hm16 _ _ hW, upd_same, W12, fun H16 s16 => ⟨rfl, _, rfl, ?_⟩⟩⟩
        have s16 := (same_new hm16).trans s16
        have hW := s16 _ _ hW
        have hld := s16 _ _ hld
        have hL := s16.seq hL
        have hD := dpAll_mono s16 hD
        have k := fun H' (s' : Same H16 H') => k H' (s16.trans s')
        rw [ne1]
        by_cases q7 : cntG ["view"] (lawW sss) = 1
        rotate_left
        · rw [decide_eq_false q7] at k
          exact iteTe (by rw [decide_eq_false q7]; rfl) (k _ (Same.refl _))
        rw [decide_eq_true q7] at k
        refine iteFe (by rw [decide_eq_true q7]; rfl) ⟨_, rfl, (by show 1 ≤ sizeLine; decide), fun m17 hm17 => ⟨(by show 3 ≤ sizeLine; decide), fun m18 hm18 => ?_⟩⟩
        have sa := same_new (o := .lst [.str "look"]) hm17
        have sb := same_new (o := .lst [.str "part", .str "again", .str "key"]) hm18
        refine ⟨_, rfl, m18, ld, _, _, rfl, rfl, upd_same, sb _ _ (sa _ _ hld), (by show 3 + 4 ≤ sizeLine; decide), fun m19 hm19 => ?_⟩
        have scc := same_new (o := .lst (partL.map V.str)) hm19
        exact ⟨D2, m17, m19, lawW sss, (["look"] : List Str), partL, rfl, scc _ _ (sb _ _ (sa _ _ hW)), scc _ _ (sb _ _ upd_same), upd_same, W12, fun Hz sz => k _ (sa.trans (sb.trans (scc.trans sz)))⟩
      · rw [if_neg d2] at k
        refine iteFe (beq_eq_false_iff_ne.mpr d2) (iteF ?_)
        refine ⟨_, rfl, (by show 1 ≤ sizeLine; decide), fun m20 hm20 => ⟨(by show 3 ≤ sizeLine; decide), fun m21 hm21 => ?_⟩⟩
        have sa := same_new (o := .lst [.str "look"]) hm20
        have sb := same_new (o := .lst [.str "part", .str "again", .str "key"]) hm21
        refine ⟨_, rfl, m21, ld, _, _, rfl, rfl, upd_same, sb _ _ (sa _ _ hld), (by show 3 + 4 ≤ sizeLine; decide), fun m22 hm22 => ?_⟩
        have scc := same_new (o := .lst (partL.map V.str)) hm22
        exact ⟨D2, m20, m22, lawW sss, (["look"] : List Str), partL, rfl, scc _ _ (sb _ _ (sa _ _ hW)), scc _ _ (sb _ _ upd_same), upd_same, W12, fun Hz sz => k _ (sa.trans (sb.trans (scc.trans sz)))⟩
    · rw [if_neg c] at k
      refine iteFe (decide_eq_false c) ⟨_, rfl, (by show 2 ≤ sizeLine; decide), fun m23 hm23 => ⟨D2, m23, lawW sss, (["switch", "close"] : List Str), rfl, same_new hm23 _ _ hW, upd_same, W12, fun H23 s23 => ⟨rfl, _, rfl, ?_⟩⟩⟩
      have s23 := (same_new hm23).trans s23
      have hW := s23 _ _ hW
      have hL := s23.seq hL
      have hD := dpAll_mono s23 hD
      have k := fun H' (s' : Same H23 H') => k H' (s23.trans s')
      rw [ne1]
      by_cases q2 : cntG ["switch", "close"] (lawW sss) = 1
      rotate_left
      · rw [decide_eq_false q2] at k
        exact iteTe (by rw [decide_eq_false q2]; rfl) (iteT (k _ (Same.refl _)))
      rw [decide_eq_true q2] at k
      refine iteFe (by rw [decide_eq_true q2]; rfl) ⟨_, rfl, (by show 2 ≤ sizeLine; decide), fun m24 hm24 => ⟨(by show 2 ≤ sizeLine; decide), fun m25 hm25 => ⟨D2, m24, m25, lawW sss, (["move", "scan"] : List Str), (["switch", "close"] : List Str), rfl, same_new hm25 _ _ (same_new hm24 _ _ hW), same_new hm25 _ _ upd_same, upd_same, W12, fun H24 s24 => ⟨_, rfl, ?_⟩⟩⟩⟩
      have s24 := (same_new hm24).trans ((same_new hm25).trans s24)
      have hW := s24 _ _ hW
      have hL := s24.seq hL
      have hD := dpAll_mono s24 hD
      have k := fun H' (s' : Same H24 H') => k H' (s24.trans s')
      cases q3 : befL (lawW sss) ["move", "scan"] ["switch", "close"] with
      | false =>
        rw [q3] at k
        exact iteT (k _ (Same.refl _))
      | true =>
      rw [q3] at k
      have hcur := k
      refine ⟨fun σ H' => σ = [some (.ref a), some (.str kd), some (.ref D2), some (.ref la), some (.ref ld), none, none, none] ∧ Same H24 H' ∧ ∀ H'', Same H' H'' → Q (.bl ((if kd ∈ (["split", "join"] : List Str) then decide (cntG ["move"] (lawW sss) = 1) else true) && decide (scansL sss).Nodup)) H'', ?_, ?_⟩
      · refine ⟨_, rfl, (by show 2 ≤ sizeLine; decide), fun m26 hm26 => ⟨(by show 1 ≤ sizeLine; decide), fun m27 hm27 => ⟨D2, m26, m27, lawW sss, (["switch", "close"] : List Str), (["wait"] : List Str), rfl, same_new hm27 _ _ (same_new hm26 _ _ hW), same_new hm27 _ _ upd_same, upd_same, W12, fun H26 s26 => ⟨_, rfl, ?_⟩⟩⟩⟩
        have s26 := (same_new hm26).trans ((same_new hm27).trans s26)
        have hW := s26 _ _ hW
        have hL := s26.seq hL
        have hD := dpAll_mono s26 hD
        have k := fun H' (s' : Same H26 H') => k H' (s26.trans s')
        cases q4 : befL (lawW sss) ["switch", "close"] ["wait"] with
        | false =>
          rw [q4] at k
          exact iteT (iteT (k _ (Same.refl _)))
        | true =>
        rw [q4] at k
        refine iteF ⟨_, rfl, D2, _, rfl, .inl (SqL.of hW), rfl, flat_strs _, _, rfl, ?_⟩
        rw [in_strs]
        by_cases w1' : ("wait" : Str) ∈ lawW sss
        · rw [decide_eq_true w1'] at k
          refine iteTe (decide_eq_true w1') ⟨_, rfl, D2, _, rfl, .inl (SqL.of hW), rfl, flat_strs _, _, rfl, ?_⟩
          rw [in_strs]
          by_cases w2' : ("close" : Str) ∈ lawW sss
          · rw [decide_eq_true w2'] at k
            exact iteTe (by rw [decide_eq_true w2']; rfl) (k _ (Same.refl _))
          · rw [decide_eq_false w2'] at k
            exact iteFe (by rw [decide_eq_false w2']; rfl) ⟨rfl, s26, k⟩
        · rw [decide_eq_false w1'] at k
          exact iteFe (decide_eq_false w1') (iteF ⟨rfl, s26, k⟩)
      rintro σ Ha ⟨rfl, sa, k⟩
      have hW := sa _ _ hW
      have hL := sa.seq hL
      have hD := dpAll_mono sa hD
      clear hcur
      refine ⟨fun σ H' => σ = [some (.ref a), some (.str kd), some (.ref D2), some (.ref la), some (.ref ld), none, none, none] ∧ Same Ha H' ∧ ∀ H'', Same H' H'' → Q (.bl (decide (scansL sss).Nodup)) H'', ?_, ?_⟩
      · refine ⟨_, rfl, (by show 2 ≤ sizeLine; decide), fun lx hlx => ?_⟩
        have sx := same_new (o := .lst [.str "split", .str "join"]) hlx
        refine ⟨lx, (["split", "join"] : List Str).map V.str, rfl, .inl (SqL.of upd_same), rfl, flat_strs _, _, rfl, ?_⟩
        rw [in_strs]
        have hW := sx _ _ hW
        have k := fun H'' s' => k H'' (sx.trans s')
        by_cases m1' : kd ∈ (["split", "join"] : List Str)
        · rw [if_pos m1'] at k
          refine iteTe (decide_eq_true m1') ⟨_, rfl, (by show 1 ≤ sizeLine; decide), fun m28 hm28 => ⟨D2, m28, lawW sss, (["move"] : List Str), rfl, same_new hm28 _ _ hW, upd_same, W12, fun H28 s28 => ⟨rfl, _, rfl, ?_⟩⟩⟩
          have s28 := (same_new hm28).trans s28
          have hW := s28 _ _ hW
          have hL := hL --  s28.seq hL
          have hD := hD --  dpAll_mono s28 hD
          have k := fun H' (s' : Same H28 H') => k H' (s28.trans s')
          rw [ne1]
          by_cases q8 : cntG ["move"] (lawW sss) = 1
          rotate_left
          · rw [decide_eq_false q8] at k
            exact iteTe (by rw [decide_eq_false q8]; rfl) (k _ (Same.refl _))
          rw [decide_eq_true q8] at k
          exact iteFe (by rw [decide_eq_true q8]; rfl) ⟨rfl, sx.trans s28, k⟩
        · rw [if_neg m1'] at k
          exact iteFe (decide_eq_false m1') (iteF ⟨rfl, sx, k⟩)
      rintro σ Hb ⟨rfl, sb, k⟩
      have hL := sb.seq hL
      have hD := dpAll_mono sb hD
      refine ⟨_, rfl, a, rfl, ⟨_, hL⟩, fun D3 hD3 => ?_⟩
      refine lc_acc walk_list hD3 (fun H' s' => s'.seq hL) (fun i => filtG (fun d => decide (hdD d = "scan")) (xs.take i) ((sss.map strsD).take i)) rfl (fun i hi => Nat.lt_of_le_of_lt (filtG_len _ _ _) ?_) ?_ ?_
      · rw [List.length_take]
        exact Nat.lt_of_le_of_lt (Nat.le_trans (Nat.min_le_right _ _) (by rw [hlen]; exact c2)) (by decide)
      · rintro i x Hc hi hx s1 R S r1 r2
        obtain ⟨dx, hdx, vx⟩ := dpAll_get hD hx
        have step := filtG_step (f := fun d => decide (hdD d = "scan")) hx hdx
        rw [List.getElem?_map] at hdx
        obtain ⟨ss, hss, rfl⟩ := Option.map_eq_some_iff.mp hdx
        obtain ⟨b, rfl, hb'⟩ := dp_strsT (dp_mono s1 vx)
        have hne := step_ne hk (hval ss (List.mem_of_getElem? hss))
        have hd0 : atI (ss.map V.str) 0 = some (.str (ss.headD "")) := by
          cases ss with
          | nil => exact absurd rfl hne
          | cons w r => exact atI_nat (j := 0) rfl
        refine ⟨rfl, _, rfl, b, _, _, _, rfl, rfl, hb', hd0, rfl, _, rfl, ?_⟩
        rw [dec_str]
        rw [hdD_strs] at step
        by_cases c9 : ss.headD "" = "scan"
        · rw [decide_eq_true c9, if_pos rfl] at step
          exact iteTe (beq_iff_eq.mpr c9) ⟨_, rfl, r1 _ _ step (Same.refl _)⟩
        · rw [decide_eq_false c9, if_neg (by decide)] at step
          exact iteFe (beq_eq_false_iff_ne.mpr c9) (r2 _ step (Same.refl _))
      intro Hc s1 hl9
      have hl9 : Hc D3 = some (.lst (filtG (fun d => decide (hdD d = "scan")) (xs.take xs.length) ((sss.map strsD).take xs.length))) := hl9
      have hx2 : (sss.map strsD).take xs.length = sss.map strsD := List.take_of_length_le (by rw [List.length_map, hlen]; exact Nat.le_refl _)
      rw [List.take_length, hx2] at hl9
      have hS : DpAll K Hc (filtG (fun d => decide (hdD d = "scan")) xs (sss.map strsD)) ((scansL sss).map strsD) := by
        have := filtG_dp (f := fun d => decide (hdD d = "scan")) (dpAll_mono s1 hD)
        rw [scans_ds] at this
        exact this
      have k := fun H'' s' => k H'' (s1.trans s')
      generalize filtG (fun d => decide (hdD d = "scan")) xs (sss.map strsD) = ys at hl9 hS
      have ylen := dpAll_len hS
      rw [List.length_map] at ylen
      have S12 : (scansL sss).length ≤ 12 := Nat.le_trans (List.length_filter_le _ _) c2
      have ysh : ∀ s ∈ scansL sss, (strsD s).canLay0 = true ∧ (strsD s).depth ≤ 63 := fun s hs => shaped_of_list hsh (List.mem_map.mpr ⟨s, (List.mem_filter.mp hs).1, rfl⟩)
      generalize hSS : scansL sss = S at hS ylen S12 ysh k
      refine ⟨_, rfl, D3, _, rfl, .inl (SqL.of hl9), (ys.length : Nat), rfl, by omega, by rw [ylen]; omega, fun D4 hD4 => ?_⟩
      have en : ((ys.length : Nat) : Int).toNat = S.length := by rw [ylen]; omega
      refine lc_acc (n := ((ys.length : Nat) : Int).toNat) (item := fun i x => x = V.int (0 + (i : Int))) walk_range hD4 (fun _ _ => trivial) (fun i => (((List.range i).filter (dupC S)).map Int.ofNat).map V.int) rfl (fun i hi => ?_) ?_ ?_
      · rw [List.length_map, List.length_map]
        rw [en] at hi
        have := List.length_filter_le (dupC S) (List.range i)
        rw [List.length_range] at this
        exact Nat.lt_of_le_of_lt this (Nat.lt_of_lt_of_le (show i < 100 by omega) (by decide))
      · rintro i x Hd hi rfl s3 R S' r1 r2
        rw [en] at hi
        have step := range_filter_step (dupC S) i
        have hi2 : i < ys.length := by omega
        have hd9 : ((S.map strsD))[i]? = some (strsD S[i]) := by rw [List.getElem?_map, List.getElem?_eq_getElem hi]; rfl
        obtain ⟨dy, hdy, vy⟩ := dpAll_get hS (List.getElem?_eq_getElem hi2)
        rw [hd9] at hdy
        cases hdy
        have ati : atI ys (0 + (i : Int)) = some ys[i] := by
          rw [Int.zero_add]
          exact atI_nat (List.getElem?_eq_getElem hi2)
        refine ⟨rfl, _, rfl, _, rfl, D3, _, _, _, rfl, rfl, SqL.of (s3 _ _ hl9), ati, _, rfl, _, rfl, _, rfl, D3, _, rfl, SqL.of (s3 _ _ hl9), fun q5 hq5 => ?_⟩
        rw [Int.zero_add, cut_takeV ys (by omega)]
        have s6 := same_new (o := .lst (ys.take i)) hq5
        refine ⟨strsD S[i], (S.take i).map strsD, dp_mono (s3.trans s6) vy, .lst (SqL.of upd_same) (by rw [List.map_take]; exact dpAll_take i (dpAll_mono (s3.trans s6) hS)), shaped_item (ysh _ (List.getElem_mem hi)), shaped_list (n := 63) (by decide) (fun d hd => ?_), _, rfl, ?_⟩
        · obtain ⟨s, hs, rfl⟩ := List.mem_map.mp hd
          exact ysh s (List.mem_of_mem_take hs)
        · rw [any_strsD]
          have hc : dupC S i = decide (S[i] ∈ S.take i) := by
            unfold dupC
            rw [List.getElem?_eq_getElem hi]
          rw [hc] at step
          by_cases c9 : S[i] ∈ S.take i
          · rw [decide_eq_true c9, if_pos rfl] at step
            refine iteTe (decide_eq_true c9) ⟨_, rfl, r1 _ _ ?_ s6⟩
            rw [step, List.map_append, List.map_append]
            simp
          · rw [decide_eq_false c9, if_neg (by decide)] at step
            exact iteFe (decide_eq_false c9) (r2 _ (by rw [step]) s6)
      intro Hd s3 hl10
      have hl10 : Hd D4 = some (.lst ((((List.range ((ys.length : Nat) : Int).toNat).filter (dupC S)).map Int.ofNat).map V.int)) := hl10
      rw [en] at hl10
      refine ⟨Nat.zero_le _, fun q9 hq9 => ?_⟩
      have s6 := same_new (o := .lst []) hq9
      refine ⟨_, _, .lst (SqL.of (s6 _ _ hl10)) (dpAll_ints _), .lst (SqL.of upd_same) .nil, ints_shaped _, shaped_nil, ?_⟩
      rw [eqv_nil, List.isEmpty_map, List.isEmpty_map, nodup_idx]
      exact k _ (s3.trans s6)
theorem ok_law_base (T : Txt K mg w) : FnOk P w K mg base CX0 2 T.f_law_base T.fd_law_base ["_law_box_here", "_law_kind"] (sp_base K) := by
  refine T.F_law_base.ok sc_law_base (fun vs H Q E h => ?_) (fun cdv A outer s H vs Q E hr h => ?_)
  · obtain ⟨H0, p, n, kd, rfl, _⟩ := h
    rfl
  · obtain ⟨H0, p, n, kd, rfl, hk, B, hn, k⟩ := h
    refine ⟨_, (C8.pss_cut (ps_set (i := 2) sc_law_base.nd rfl (Or.inl rfl) (pe_ifExp (pt_cmpR op_eq (pe_call (ok_law_take T) hr rfl T.m_law_take T.F_law_take.kp T.b_law_take .nil pass0 (pa_cons (pv 0) (pa_cons pe_int pa_nil))) pe_int (nomark _)) (pe_tup (pa_cons pe_str pa_nil)) (pe_tup (pa_cons pe_str pa_nil))))
        (C8.pss_cut (ps_set (i := 3) sc_law_base.nd rfl (Or.inl rfl) (pe_ix ix_list (pe_lst (pa_cons (pe_lst (pa_cons (pe_tup (pa_cons pe_str pa_nil)) pa_nil)) (pa_cons (pe_lst (pa_cons (pe_tup (pa_cons pe_str pa_nil)) (pa_cons (pe_tup (pa_cons pe_str pa_nil)) pa_nil))) (pa_cons (pe_lst (pa_cons (pe_tup (pa_cons pe_str pa_nil)) (pa_cons (pe_tup (pa_cons pe_str pa_nil)) (pa_cons (pe_tup (pa_cons pe_str pa_nil)) pa_nil)))) pa_nil)))) (pe_call (ok_law_take T) hr rfl T.m_law_take T.F_law_take.kp T.b_law_take .nil pass0 (pa_cons (pv 0) (pa_cons pe_int pa_nil))) (fun _ _ => rfl)))
        (pss_cons (ps_if (pt_cmpR op_in_seq (pv 1) (pe_lst (pa_cons pe_str (pa_cons pe_str pa_nil))) (by rfl)) (pss_one (ps_ret (pe_op op_cat (pe_ifExp (pt_cmpR op_eq (pv 1) pe_str (nomark _)) (pe_lst (pa_cons (pe_tup (pa_cons pe_str pa_nil)) pa_nil)) (pe_lst pa_nil)) (pe_lst (pa_cons (pv 2) (pa_cons (pe_tup (pa_cons pe_str pa_nil)) pa_nil)))))) pss_nil)
        (pss_cons (ps_if (pt_cmpR op_eq (pv 1) pe_str (nomark _)) (pss_one (ps_ret (pe_lst (pa_cons (pe_tup (pa_cons pe_str pa_nil)) (pa_cons (pe_tup (pa_cons pe_str pa_nil)) (pa_cons (pe_tup (pa_cons pe_str pa_nil)) pa_nil)))))) pss_nil)
        (pss_cons (ps_if (pt_cmpR op_eq (pv 1) pe_str (nomark _)) (pss_one (ps_ret (pe_op op_cat (pe_ix ix_list (pe_lst (pa_cons (pe_lst (pa_cons (pe_tup (pa_cons pe_str pa_nil)) (pa_cons (pe_tup (pa_cons pe_str pa_nil)) pa_nil))) (pa_cons (pe_lst (pa_cons (pe_tup (pa_cons pe_str pa_nil)) (pa_cons (pe_tup (pa_cons pe_str pa_nil)) pa_nil))) pa_nil))) (pe_call (ok_law_take T) hr rfl T.m_law_take T.F_law_take.kp T.b_law_take .nil pass0 (pa_cons (pv 0) (pa_cons pe_int pa_nil))) (fun _ _ => rfl)) (pe_lst (pa_cons (pe_tup (pa_cons pe_str pa_nil)) (pa_cons (pe_tup (pa_cons pe_str pa_nil)) pa_nil)))))) pss_nil)
        (pss_one (ps_ret (pe_op op_cat (pe_ifExp (pt_cmpR op_in_seq (pv 1) (pe_lst (pa_cons pe_str (pa_cons pe_str pa_nil))) (by rfl)) (pe_lst (pa_cons (pe_tup (pa_cons pe_str pa_nil)) pa_nil)) (pe_lst pa_nil)) (pv 3))))))))), ?_⟩
    refine ⟨fun σ H' => ∃ (G : Hp) (td : Addr) (d : List Str), σ = [some (.ref p), some (.str kd), some (.ref td), none] ∧ Same H0 G ∧ BoxIn G H' p (n + 1) ∧ G td = some (.tup (d.map V.str)) ∧ d ∈ ([["claim"], ["put"]] : List (List Str)), ?_, ?_⟩
    · refine ⟨_, rfl, H0, p, n, 2, rfl, B, by omega, by decide, by decide, fun z H1 z0 z1 B1 => ⟨rfl, _, rfl, ?_⟩⟩
      refine ite2 (fun c => ?_) (fun c => ?_)
      · refine ⟨(by show 1 ≤ sizeLine; decide), fun t ht => ?_⟩
        have B2 := B1.new (o := .tup [.str "claim"]) ht
        exact ⟨_, t, ["claim"], rfl, B2.2, B2.1, upd_same, List.mem_cons_self⟩
      · refine ⟨(by show 1 ≤ sizeLine; decide), fun t ht => ?_⟩
        have B2 := B1.new (o := .tup [.str "put"]) ht
        exact ⟨_, t, ["put"], rfl, B2.2, B2.1, upd_same, List.mem_cons_of_mem _ List.mem_cons_self⟩
    rintro σ H2 ⟨G, td, d, rfl, sG, B2, htd, hd⟩
    refine ⟨fun σ H' => ∃ (G2 : Hp) (ll : Addr) (lst : List (List Str)), σ = [some (.ref p), some (.str kd), some (.ref td), some (.ref ll)] ∧ Same G G2 ∧ BoxIn G2 H' p (n + 2) ∧ PL K G2 ll lst ∧ lst ∈ lastsL, ?_, ?_⟩
    · refine ⟨(by show 1 ≤ sizeLine; decide), fun t1 h1 => ⟨(by show 1 ≤ sizeLine; decide), fun l1 g1 => ⟨(by show 1 ≤ sizeLine; decide), fun t2 h2 => ⟨(by show 1 ≤ sizeLine; decide), fun t3 h3 => ⟨(by show 2 ≤ sizeLine; decide), fun l2 g2 => ?_⟩⟩⟩⟩⟩
      refine ⟨(by show 1 ≤ sizeLine; decide), fun t4 h4 => ⟨(by show 1 ≤ sizeLine; decide), fun t5 h5 => ⟨(by show 1 ≤ sizeLine; decide), fun t6 h6 => ⟨(by show 3 ≤ sizeLine; decide), fun l3 g3 => ⟨(by show 3 ≤ sizeLine; decide), fun lo go => ?_⟩⟩⟩⟩⟩
      have b1 := B2.new (o := .tup ((["close"] : List Str).map V.str)) h1
      have b2 := b1.1.new (o := .lst [.ref t1]) g1
      have b3 := b2.1.new (o := .tup ((["switch"] : List Str).map V.str)) h2
      have b4 := b3.1.new (o := .tup ((["end"] : List Str).map V.str)) h3
      have b5 := b4.1.new (o := .lst [.ref t2, .ref t3]) g2
      have b6 := b5.1.new (o := .tup ((["switch"] : List Str).map V.str)) h4
      have b7 := b6.1.new (o := .tup ((["wait"] : List Str).map V.str)) h5
      have b8 := b7.1.new (o := .tup ((["end"] : List Str).map V.str)) h6
      have b9 := b8.1.new (o := .lst [.ref t4, .ref t5, .ref t6]) g3
      have b10 := b9.1.new (o := .lst [.ref l1, .ref l2, .ref l3]) go
      have m9 := b10.2
      have m8 := b9.2.trans m9
      have m7 := b8.2.trans m8
      have m6 := b7.2.trans m7
      have m5 := b6.2.trans m6
      have m4 := b5.2.trans m5
      have m3 := b4.2.trans m4
      have m2 := b3.2.trans m3
      have m1 := b2.2.trans m2
      refine ⟨_, rfl, _, p, _, 3, rfl, b10.1, by omega, by decide, by decide, fun z H5 z0 z1 B5 => ?_⟩
      obtain ⟨v, hv, hm⟩ := atI_in (xs := [V.ref l1, .ref l2, .ref l3]) z0 z1
      refine ⟨lo, _, z, v, rfl, rfl, SqL.of (B5.same _ _ upd_same), hv, ?_⟩
      simp only [List.mem_cons, List.not_mem_nil, or_false] at hm
      rcases hm with rfl | rfl | rfl
      · exact ⟨_, l1, [["close"]], rfl, b1.2.trans m1, B5, ⟨_, m2 _ _ upd_same, .cons (dp_tup1 (m1 _ _ upd_same)) .nil⟩, by decide +kernel⟩
      · exact ⟨_, l2, [["switch"], ["end"]], rfl, b1.2.trans m1, B5, ⟨_, m5 _ _ upd_same, .cons (dp_tup1 (m3 _ _ upd_same)) (.cons (dp_tup1 (m4 _ _ upd_same)) .nil)⟩, by decide +kernel⟩
      · exact ⟨_, l3, [["switch"], ["wait"], ["end"]], rfl, b1.2.trans m1, B5, ⟨_, m9 _ _ upd_same, .cons (dp_tup1 (m6 _ _ upd_same)) (.cons (dp_tup1 (m7 _ _ upd_same)) (.cons (dp_tup1 (m8 _ _ upd_same)) .nil))⟩, by decide +kernel⟩
    rintro σ H3 ⟨G2, ll, lst, rfl, sG2, B3, hll, hlst⟩
    have htd := sG2 _ _ htd
    have sG := sG.trans sG2
    refine ⟨_, rfl, (by show 2 ≤ sizeLine; decide), fun la hla => ?_⟩
    have b1 := B3.new (o := .lst [.str "put", .str "direct"]) hla
    have htd := b1.2 _ _ htd
    have hll := hll.mono b1.2
    have sG := sG.trans b1.2
    refine ⟨la, (["put", "direct"] : List Str).map V.str, rfl, .inl (SqL.of upd_same), rfl, flat_strs _, _, rfl, ?_⟩
    rw [in_strs]
    have hd2 := base_put d hd
    have hl2 := base_change lst hlst
    simp only [kindsL, List.mem_cons, List.not_mem_nil, or_false] at hk
    rcases hk with rfl | rfl | rfl | rfl | hk
    · -- put
      refine iteTe (by decide +kernel) ⟨_, rfl, rfl, _, rfl, iteTe (by decide +kernel) ⟨(by show 1 ≤ sizeLine; decide), fun t1 h1 => ⟨(by show 1 ≤ sizeLine; decide), fun l1 g1 => ⟨_, rfl, (by show 1 ≤ sizeLine; decide), fun t2 h2 => ⟨(by show 2 ≤ sizeLine; decide), fun l2 g2 => ?_⟩⟩⟩⟩⟩
      have c1 := b1.1.new (o := .tup ((["look"] : List Str).map V.str)) h1
      have c2 := c1.1.new (o := .lst [.ref t1]) g1
      have c3 := c2.1.new (o := .tup ((["end"] : List Str).map V.str)) h2
      have c4 := c3.1.new (o := .lst [.ref td, .ref t2]) g2
      have n3 := c4.2
      have n2 := c3.2.trans n3
      have n1 := c2.2.trans n2
      refine ⟨l1, l2, _, _, rfl, rfl, c4.1.same _ _ (n2 _ _ upd_same), c4.1.same _ _ upd_same, (by show 1 + 2 ≤ sizeLine; decide), fun r hr => ?_⟩
      have c5 := c4.1.new (o := .lst [.ref t1, .ref td, .ref t2]) hr
      refine k _ _ r [["look"], d, ["end"]] (sG.trans (c1.2.trans (n1.trans c5.2))) (c5.1.mono (by omega)) ⟨_, upd_same, .cons (dp_mono c5.2 (dp_tup1 (n1 _ _ upd_same))) (.cons (dp_mono c5.2 (dp_tup1 (n1 _ _ (c1.2 _ _ htd)))) (.cons (dp_mono c5.2 (dp_tup1 (n3 _ _ upd_same))) .nil))⟩ hd2.1 (goodB_ok hd2.2.1)
    · -- strike
      refine iteFe (by decide +kernel) ⟨_, rfl, rfl, _, rfl, iteTe (by decide +kernel) ⟨(by show 1 ≤ sizeLine; decide), fun t1 h1 => ⟨(by show 1 ≤ sizeLine; decide), fun t2 h2 => ⟨(by show 1 ≤ sizeLine; decide), fun t3 h3 => ⟨(by show 3 ≤ sizeLine; decide), fun r hr => ?_⟩⟩⟩⟩⟩
      have c1 := b1.1.new (o := .tup ((["look"] : List Str).map V.str)) h1
      have c2 := c1.1.new (o := .tup ((["strike"] : List Str).map V.str)) h2
      have c3 := c2.1.new (o := .tup ((["end"] : List Str).map V.str)) h3
      have c4 := c3.1.new (o := .lst [.ref t1, .ref t2, .ref t3]) hr
      have n3 := c4.2
      have n2 := c3.2.trans n3
      have n1 := c2.2.trans n2
      refine k _ _ r [["look"], ["strike"], ["end"]] (sG.trans (c1.2.trans n1)) (c4.1.mono (by omega)) ⟨_, upd_same, .cons (dp_tup1 (n1 _ _ upd_same)) (.cons (dp_tup1 (n2 _ _ upd_same)) (.cons (dp_tup1 (n3 _ _ upd_same)) .nil))⟩ base_strike.1 (goodB_ok base_strike.2)
    · -- read
      refine iteFe (by decide +kernel) ⟨_, rfl, rfl, _, rfl, iteFe (by decide +kernel) ⟨_, rfl, rfl, _, rfl, iteTe (by decide +kernel) ⟨(by show 1 ≤ sizeLine; decide), fun t1 h1 => ⟨(by show 1 ≤ sizeLine; decide), fun t2 h2 => ⟨(by show 2 ≤ sizeLine; decide), fun l1 g1 => ⟨(by show 1 ≤ sizeLine; decide), fun t3 h3 => ⟨(by show 1 ≤ sizeLine; decide), fun t4 h4 => ⟨(by show 2 ≤ sizeLine; decide), fun l2 g2 => ⟨(by show 2 ≤ sizeLine; decide), fun lo go => ?_⟩⟩⟩⟩⟩⟩⟩⟩⟩
      have c1 := b1.1.new (o := .tup ((["look"] : List Str).map V.str)) h1
      have c2 := c1.1.new (o := .tup ((["view"] : List Str).map V.str)) h2
      have c3 := c2.1.new (o := .lst [.ref t1, .ref t2]) g1
      have c4 := c3.1.new (o := .tup ((["view"] : List Str).map V.str)) h3
      have c5 := c4.1.new (o := .tup ((["look"] : List Str).map V.str)) h4
      have c6 := c5.1.new (o := .lst [.ref t3, .ref t4]) g2
      have c7 := c6.1.new (o := .lst [.ref l1, .ref l2]) go
      have n6 := c7.2
      have n5 := c6.2.trans n6
      have n4 := c5.2.trans n5
      have n3 := c4.2.trans n4
      have n2 := c3.2.trans n3
      have n1 := c2.2.trans n2
      refine ⟨_, rfl, _, p, _, 2, rfl, c7.1, by omega, by decide, by decide, fun z H5 z0 z1 B5 => ?_⟩
      obtain ⟨v, hv, hm⟩ := atI_in (xs := [V.ref l1, .ref l2]) z0 z1
      refine ⟨lo, _, z, v, rfl, rfl, SqL.of (B5.same _ _ upd_same), hv, ?_⟩
      obtain ⟨G3, lf, a, rfl, sG3, B5, hlf, ha⟩ : ∃ (G3 : Hp) (lf : Addr) (a : List (List Str)), v = .ref lf ∧ Same H0 G3 ∧ BoxIn G3 H5 p (n + 3) ∧ PL K G3 lf a ∧ a ∈ ([[["look"], ["view"]], [["view"], ["look"]]] : List (List (List Str))) := by
        simp only [List.mem_cons, List.not_mem_nil, or_false] at hm
        rcases hm with rfl | rfl
        · exact ⟨_, l1, [["look"], ["view"]], rfl, sG.trans (c1.2.trans n1), B5, ⟨_, n3 _ _ upd_same, .cons (dp_tup1 (n1 _ _ upd_same)) (.cons (dp_tup1 (n2 _ _ upd_same)) .nil)⟩, by decide +kernel⟩
        · exact ⟨_, l2, [["view"], ["look"]], rfl, sG.trans (c1.2.trans n1), B5, ⟨_, n6 _ _ upd_same, .cons (dp_tup1 (n4 _ _ upd_same)) (.cons (dp_tup1 (n5 _ _ upd_same)) .nil)⟩, by decide +kernel⟩
      refine ⟨(by show 1 ≤ sizeLine; decide), fun t5 h5 => ⟨(by show 1 ≤ sizeLine; decide), fun t6 h6 => ⟨(by show 2 ≤ sizeLine; decide), fun l3 g3 => ?_⟩⟩⟩
      have e1 := B5.new (o := .tup ((["read"] : List Str).map V.str)) h5
      have e2 := e1.1.new (o := .tup ((["end"] : List Str).map V.str)) h6
      have e3 := e2.1.new (o := .lst [.ref t5, .ref t6]) g3
      have m2 := e3.2
      have m1 := e2.2.trans m2
      obtain ⟨xs, hx1, hx2⟩ := hlf.mono (e1.2.trans m1)
      have a2 : a.length = 2 := by
        simp only [List.mem_cons, List.not_mem_nil, or_false] at ha
        rcases ha with rfl | rfl <;> rfl
      have xl := dpAll_len hx2
      rw [List.length_map, a2] at xl
      refine ⟨lf, l3, xs, _, rfl, rfl, e3.1.same _ _ hx1, e3.1.same _ _ upd_same, (by rw [xl]; show 2 + 2 ≤ sizeLine; decide), fun r hr => ?_⟩
      have e4 := e3.1.new (o := .lst (xs ++ [.ref t5, .ref t6])) hr
      have br := base_read a ha
      refine k _ _ r (a ++ ([["read"], ["end"]] : List (List Str))) (sG3.trans (e1.2.trans (m1.trans e4.2))) (e4.1.mono (by omega)) ⟨_, upd_same, ?_⟩ br.1 (goodB_ok br.2)
      rw [List.map_append]
      exact dpAll_app (dpAll_mono e4.2 hx2) (.cons (dp_mono e4.2 (dp_tup1 (m1 _ _ upd_same))) (.cons (dp_mono e4.2 (dp_tup1 (m2 _ _ upd_same))) .nil))
    · -- direct
      refine iteTe (by decide +kernel) ⟨_, rfl, rfl, _, rfl, iteFe (by decide +kernel) ⟨(by show 0 ≤ sizeLine; decide), fun l1 g1 => ⟨_, rfl, (by show 1 ≤ sizeLine; decide), fun t2 h2 => ⟨(by show 2 ≤ sizeLine; decide), fun l2 g2 => ?_⟩⟩⟩⟩
      have c2 := b1.1.new (o := .lst []) g1
      have c3 := c2.1.new (o := .tup ((["end"] : List Str).map V.str)) h2
      have c4 := c3.1.new (o := .lst [.ref td, .ref t2]) g2
      have n3 := c4.2
      have n2 := c3.2.trans n3
      have n1 := c2.2.trans n2
      refine ⟨l1, l2, _, _, rfl, rfl, c4.1.same _ _ (n2 _ _ upd_same), c4.1.same _ _ upd_same, (by show 0 + 2 ≤ sizeLine; decide), fun r hr => ?_⟩
      have c5 := c4.1.new (o := .lst [.ref td, .ref t2]) hr
      refine k _ _ r [d, ["end"]] (sG.trans (n1.trans c5.2)) (c5.1.mono (by omega)) ⟨_, upd_same, .cons (dp_mono c5.2 (dp_tup1 (n1 _ _ htd))) (.cons (dp_mono c5.2 (dp_tup1 (n3 _ _ upd_same))) .nil)⟩ hd2.2.2.1 (goodB_ok hd2.2.2.2)
    · -- changes
      have f1 : decide (kd ∈ (["put", "direct"] : List Str)) = false := by rcases hk with rfl | rfl | rfl | rfl <;> decide +kernel
      have f2 : (kd == ("strike" : Str)) = false := by rcases hk with rfl | rfl | rfl | rfl <;> decide +kernel
      have f3 : (kd == ("read" : Str)) = false := by rcases hk with rfl | rfl | rfl | rfl <;> decide +kernel
      refine iteFe f1 ⟨_, rfl, rfl, _, rfl, iteFe (by rw [dec_str]; exact f2) ⟨_, rfl, rfl, _, rfl, iteFe (by rw [dec_str]; exact f3) ⟨_, rfl, (by show 2 ≤ sizeLine; decide), fun lx hlx => ?_⟩⟩⟩
      have c0 := b1.1.new (o := .lst [.str "split", .str "join"]) hlx
      have hll := hll.mono c0.2
      have sG := sG.trans c0.2
      refine ⟨lx, (["split", "join"] : List Str).map V.str, rfl, .inl (SqL.of upd_same), rfl, flat_strs _, _, rfl, ?_⟩
      rw [in_strs]
      by_cases m1' : kd ∈ (["split", "join"] : List Str)
      · refine iteTe (decide_eq_true m1') ⟨(by show 1 ≤ sizeLine; decide), fun t1 h1 => ⟨(by show 1 ≤ sizeLine; decide), fun l1 g1 => ?_⟩⟩
        have c1 := c0.1.new (o := .tup ((["move"] : List Str).map V.str)) h1
        have c2 := c1.1.new (o := .lst [.ref t1]) g1
        obtain ⟨xs, hx1, hx2⟩ := hll.mono (c1.2.trans c2.2)
        have a3 : lst.length ≤ 3 := by
          have all : ∀ a ∈ lastsL, a.length ≤ 3 := by decide +kernel
          exact all _ hlst
        have xl := dpAll_len hx2
        rw [List.length_map] at xl
        refine ⟨_, rfl, l1, ll, _, xs, rfl, rfl, c2.1.same _ _ upd_same, c2.1.same _ _ hx1, (by rw [xl]; exact Nat.le_trans (Nat.add_le_add_left a3 1) (by decide)), fun r hr => ?_⟩
        have e4 := c2.1.new (o := .lst ([.ref t1] ++ xs)) hr
        refine k _ _ r (([["move"]] : List (List Str)) ++ lst) (sG.trans (c1.2.trans (c2.2.trans e4.2))) (e4.1.mono (by omega)) ⟨_, upd_same, ?_⟩ (hl2.2.1 kd m1') (goodB_ok hl2.2.2.2)
        exact .cons (dp_mono e4.2 (dp_tup1 (c2.2 _ _ upd_same))) (dpAll_mono e4.2 hx2)
      · have m2' : kd ∈ (["hang", "take"] : List Str) := by
          rcases hk with rfl | rfl | rfl | rfl
          · decide +kernel
          · decide +kernel
          · exact absurd (by decide +kernel) m1'
          · exact absurd (by decide +kernel) m1'
        refine iteFe (decide_eq_false m1') ⟨(by show 0 ≤ sizeLine; decide), fun l1 g1 => ?_⟩
        have c2 := c0.1.new (o := .lst []) g1
        obtain ⟨xs, hx1, hx2⟩ := hll.mono c2.2
        have a3 : lst.length ≤ 3 := by
          have all : ∀ a ∈ lastsL, a.length ≤ 3 := by decide +kernel
          exact all _ hlst
        have xl := dpAll_len hx2
        rw [List.length_map] at xl
        refine ⟨_, rfl, l1, ll, _, xs, rfl, rfl, c2.1.same _ _ upd_same, c2.1.same _ _ hx1, (by rw [xl]; exact Nat.le_trans (Nat.add_le_add_left a3 0) (by decide)), fun r hr => ?_⟩
        have e4 := c2.1.new (o := .lst ([] ++ xs)) hr
        exact k _ _ r lst (sG.trans (c2.2.trans e4.2)) (e4.1.mono (by omega)) ⟨_, upd_same, dpAll_mono e4.2 hx2⟩ (hl2.1 kd m2') (goodB_ok hl2.2.2.1)
theorem ok_law_program (T : Txt K mg w) : FnOk P w K mg base CX0 4 T.f_law_program T.fd_law_program ["_law_box_here", "_law_kind", "_law_modes"] (sp_program K) := by
  refine T.F_law_program.ok sc_law_program (fun vs H Q E h => ?_) (fun cdv A outer s H vs Q E hr h => ?_)
  · obtain ⟨H0, p, m, n, kd, ms, rfl, _⟩ := h
    rfl
  · obtain ⟨H0, p, m, n, kd, ms, rfl, hk, B, hm, hm0, hmz, hmok, hn, k⟩ := h
    refine ⟨_, (pss_cons (ps_set (i := 3) sc_law_program.nd rfl (Or.inl rfl) (pe_call (ok_law_base T) (hr.mono (by decide)) rfl T.m_law_base T.F_law_base.kp T.b_law_base .nil pass0 (pa_cons (pv 0) (pa_cons (pv 1) pa_nil))))
        (pss_cons (ps_for PassesOwn.never rfl (pi_range1 rfl T.z_range (pa_cons (pe_call (ok_law_take T) (hr.mono (by decide)) rfl T.m_law_take T.F_law_take.kp T.b_law_take .nil pass0 (pa_cons (pv 0) (pa_cons pe_int pa_nil))) pa_nil)) (pg_name (i := 4) sc_law_program.nd rfl (Or.inl rfl))
          (pss_cons (ps_set (i := 5) sc_law_program.nd rfl (Or.inl rfl) (pe_call (ok_law_drawn_step T) (hr.mono (by decide)) rfl T.m_law_drawn_step T.F_law_drawn_step.kp T.b_law_drawn_step .nil pass0 (pa_cons (pv 0) (pa_cons (pv 2) pa_nil))))
        (pss_cons (ps_set (i := 6) sc_law_program.nd rfl (Or.inl rfl) (pe_call (ok_law_take T) (hr.mono (by decide)) rfl T.m_law_take T.F_law_take.kp T.b_law_take .nil pass0 (pa_cons (pv 0) (pa_cons (pe_callB (id := "len") call_len_seq (by rfl) T.z_len (by decide +kernel) (pa_cons (pv 3) pa_nil)) pa_nil))))
        (pss_cons (ps_set (i := 7) sc_law_program.nd rfl (Or.inl rfl) (pe_op op_cat (pe_op op_cat (pe_slice sl_list (pv 3) po_none (po_some (pv 6))) (pe_lst (pa_cons (pv 5) pa_nil))) (pe_slice sl_list (pv 3) (po_some (pv 6)) po_none)))
        (pss_one (ps_if (pt_val (pe_call (ok_law_is_program T) hr rfl T.m_law_is_program T.F_law_is_program.kp T.b_law_is_program .nil pass0 (pa_cons (pv 7) (pa_cons (pv 1) pa_nil)))) (pss_one (ps_set (i := 3) sc_law_program.nd rfl (Or.inl rfl) (pv 7))) pss_nil))))))
        (pss_one (ps_ret (pv 3))))), ?_⟩
    refine ⟨_, rfl, _, rfl, H0, p, n, kd, rfl, hk, B, by omega, fun G1 H1 l1 ss1 s1 B1 hl1 hp1 hg1 => ?_⟩
    refine ⟨_, rfl, _, p, _, 12, rfl, B1, by omega, by decide, by decide, fun z H2 z0 z1 B2 => ⟨z, rfl, by omega, by omega, for_range (fun j σ H' => ∃ (G : Hp) (l : Addr) (sss : List (List Str)) (v4 v5 v6 v7 : Option V), σ = [some (.ref p), some (.str kd), some (.ref m), some (.ref l), v4, v5, v6, v7] ∧ Same H0 G ∧ BoxIn G H' p (n + 6 + 12 * j) ∧ PL K G l sss ∧ progS kd sss = true ∧ (∀ ss ∈ sss, goodS ss)) ⟨G1, l1, ss1, none, none, none, none, rfl, s1, B2.mono (by omega), hl1, hp1, hg1⟩ ?_ ?_⟩⟩
    · rintro j σ H3 hj ⟨G, l, sss, v4, v5, v6, v7, rfl, sG, B3, hl, hp, hg⟩
      have hj : j < 12 := by omega
      refine ⟨_, rfl, _, rfl, G, p, m, _, ms, rfl, B3, sG _ _ hm, hm0, hmz, hmok, by omega, fun G2 H4 t ss sG2 B4 ht hs3 hsok => ?_⟩
      have hl := hl.mono sG2
      have sG := sG.trans sG2
      obtain ⟨xs, hx1, hx2⟩ := hl
      have xl := dpAll_len hx2
      rw [List.length_map] at xl
      have pl := progS_len hp
      refine ⟨_, rfl, _, rfl, l, _, rfl, .inl (SqL.of (B4.same _ _ hx1)), G2, p, _, (xs.length : Nat), rfl, B4, by omega, by omega, by omega, fun y H5 y0 y1 B5 => ?_⟩
      obtain ⟨i, rfl⟩ := Int.eq_ofNat_of_zero_le y0
      have hi : i ≤ xs.length := by omega
      refine ⟨_, rfl, _, rfl, (i : Int), rfl, l, xs, rfl, SqL.of (B5.same _ _ hx1), fun a1 ha1 => ?_⟩
      rw [cut_takeV xs hi]
      have c1 := B5.new (o := .lst (xs.take i)) ha1
      refine ⟨_, rfl, (by show 1 ≤ sizeLine; decide), fun a2 ha2 => ?_⟩
      have c2 := c1.1.new (o := .lst [.ref t]) ha2
      have lt : (xs.take i).length ≤ 12 := by rw [List.length_take]; omega
      refine ⟨a1, a2, _, _, rfl, rfl, c2.1.same _ _ (c2.2 _ _ upd_same), c2.1.same _ _ upd_same, Nat.le_trans (Nat.add_le_add_right lt 1) (by decide), fun a3 ha3 => ?_⟩
      have c3 := c2.1.new (o := .lst (xs.take i ++ [.ref t])) ha3
      have m12 := c1.2.trans (c2.2.trans c3.2)
      refine ⟨_, rfl, _, rfl, (i : Int), rfl, l, xs, rfl, SqL.of (c3.1.same _ _ (m12 _ _ hx1)), fun a4 ha4 => ?_⟩
      rw [cut_dropV xs hi]
      have c4 := c3.1.new (o := .lst (xs.drop i)) ha4
      have ld : (xs.drop i).length ≤ 12 := by rw [List.length_drop]; omega
      have l3 : (xs.take i ++ [V.ref t]).length ≤ 13 := by rw [List.length_append]; show _ + 1 ≤ 13; omega
      refine ⟨a3, a4, _, _, rfl, rfl, c4.1.same _ _ (c4.2 _ _ upd_same), c4.1.same _ _ upd_same, Nat.le_trans (Nat.add_le_add l3 ld) (by decide), fun a5 ha5 => ?_⟩
      have c5 := c4.1.new (o := .lst (xs.take i ++ [.ref t] ++ xs.drop i)) ha5
      have m15 := m12.trans (c4.2.trans c5.2)
      have hg2 : ∀ x ∈ sss.take i ++ [ss] ++ sss.drop i, goodS x := fun x hx => by
        rcases List.mem_append.mp hx with q | q
        · rcases List.mem_append.mp q with q | q
          · exact hg x (List.mem_of_mem_take q)
          · rw [List.mem_singleton.mp q]
            exact ⟨hs3, hsok⟩
        · exact hg x (List.mem_of_mem_drop q)
      have pl5 : PL K _ a5 (sss.take i ++ [ss] ++ sss.drop i) := ⟨_, upd_same, by
        rw [List.map_append, List.map_append, List.map_take, List.map_drop]
        exact dpAll_app (dpAll_app (dpAll_take i (dpAll_mono m15 hx2)) (.cons (dp_tup1 (m15 _ _ ht)) .nil)) (dpAll_drop i (dpAll_mono m15 hx2))⟩
      have hlen2 : (sss.take i ++ [ss] ++ sss.drop i).length ≤ 100 := by
        simp only [List.length_append, List.length_take, List.length_drop, List.length_cons, List.length_nil]
        omega
      obtain ⟨vd, pok⟩ := good_list hg2 hlen2 (pl5.mono c5.1.same)
      refine ⟨_, rfl, _, rfl, .ref a5, _, kd, rfl, vd, pok, hk, fun H6 s6 => ⟨_, rfl, ?_⟩⟩
      have B6 := (c5.1.keep s6)
      have sG6 := sG.trans m15
      show if progS kd (sss.take i ++ [ss] ++ sss.drop i) = true then _ else _
      cases q : progS kd (sss.take i ++ [ss] ++ sss.drop i) with
      | true => exact iteT ⟨_, rfl, _, a5, _, _, _, _, _, rfl, sG6, B6.mono (by omega), pl5, q, hg2⟩
      | false => exact iteF ⟨_, l, sss, _, _, _, _, rfl, sG6, B6.mono (by omega), ⟨xs, m15 _ _ hx1, dpAll_mono m15 hx2⟩, hp, hg⟩
    · rintro σ H3 ⟨G, l, sss, v4, v5, v6, v7, rfl, sG, B3, hl, hp, hg⟩
      exact ⟨_, rfl, k G H3 l sss sG (B3.mono (by omega)) hl hp hg⟩
theorem ok_law_bent (T : Txt K mg w) : FnOk P w K mg base CX0 3 T.f_law_bent T.fd_law_bent ["_law_box_here", "_law_program_here", "_law_modes"] (sp_bent22 K) := by
  refine T.F_law_bent.ok sc_law_bent (fun vs H Q E h => ?_) (fun cdv A outer s H vs Q E hr h => ?_)
  · obtain ⟨H0, p, l, m, n, xs, ms, rfl, _⟩ := h
    rfl
  · obtain ⟨H0, p, l, m, n, xs, ms, rfl, B, hl, h0, hz, hg, hm, hm0, hmz, hmok, hn, k⟩ := h
    refine ⟨_, (pss_cons (ps_set (i := 3) sc_law_bent.nd rfl (Or.inl rfl) (pe_callTy (T := "list") call_list_of (by rfl) T.z_list (by decide +kernel) (pa_cons (pv 1) pa_nil)))
        (pss_cons (ps_par (i := 4) (j := 5) (by rfl) sc_law_bent.nd rfl rfl (by decide) rfl rfl (pa_cons (pe_call (ok_law_take T) (hr.mono (by decide)) rfl T.m_law_take T.F_law_take.kp T.b_law_take .nil pass0 (pa_cons (pv 0) (pa_cons (pe_callB (id := "len") call_len_seq (by rfl) T.z_len (by decide +kernel) (pa_cons (pv 3) pa_nil)) pa_nil))) (pa_cons (pe_call (ok_law_take T) (hr.mono (by decide)) rfl T.m_law_take T.F_law_take.kp T.b_law_take .nil pass0 (pa_cons (pv 0) (pa_cons (pe_callB (id := "len") call_len_seq (by rfl) T.z_len (by decide +kernel) (pa_cons (pv 3) pa_nil)) pa_nil))) pa_nil)) (by rfl))
        (pss_cons (ps_set (i := 6) sc_law_bent.nd rfl (Or.inl rfl) (pe_call (ok_law_take T) (hr.mono (by decide)) rfl T.m_law_take T.F_law_take.kp T.b_law_take .nil pass0 (pa_cons (pv 0) (pa_cons pe_int pa_nil))))
        (C8.pss_cut (ps_if (pt_cmpR op_eq (pv 6) pe_int (nomark _)) (pss_one (ps_expr (pe_bm PySem.F.plainAttrs_list PySem.F.slot_list_pop PySem.F.type_list_pop mt_popAt (pv 3) (pa_cons (pv 4) pa_nil)))) pss_nil)
        (C8.pss_cut (ps_if (pt_cmpR op_eq (pv 6) pe_int (nomark _)) (pss_one (ps_expr (pe_bm PySem.F.plainAttrs_list PySem.F.slot_list_insert PySem.F.type_list_insert mt_insert (pv 3) (pa_cons (pv 4) (pa_cons (pe_ix ix_list (pv 3) (pv 5) (fun _ _ => rfl)) pa_nil))))) pss_nil)
        (C8.pss_cut (ps_if (pt_cmpR op_eq (pv 6) pe_int (nomark _)) (pss_one (ps_asg (pe_tup (pa_cons (pe_ix ix_list (pv 3) (pv 5) (fun _ _ => rfl)) (pa_cons (pe_ix ix_list (pv 3) (pv 4) (fun _ _ => rfl)) pa_nil))) (pg_tup rfl (pgs_cons (pg_sub (pv 3) (pv 4) set_list) (pgs_cons (pg_sub (pv 3) (pv 5) set_list) pgs_nil))))) pss_nil)
        (C8.pss_cut (ps_if (pt_cmpR op_eq (pv 6) pe_int (nomark _)) (pss_one (ps_expr (pe_bm PySem.F.plainAttrs_list PySem.F.slot_list_insert PySem.F.type_list_insert mt_insert (pv 3) (pa_cons (pe_call (ok_law_take T) (hr.mono (by decide)) rfl T.m_law_take T.F_law_take.kp T.b_law_take .nil pass0 (pa_cons (pv 0) (pa_cons (pe_op op_add (pe_callB (id := "len") call_len_seq (by rfl) T.z_len (by decide +kernel) (pa_cons (pv 3) pa_nil)) pe_int) pa_nil))) (pa_cons (pe_call (ok_law_drawn_step T) hr rfl T.m_law_drawn_step T.F_law_drawn_step.kp T.b_law_drawn_step .nil pass0 (pa_cons (pv 0) (pa_cons (pv 2) pa_nil))) pa_nil))))) pss_nil)
        (C8.pss_cut (ps_if (pt_cmpR op_eq (pv 6) pe_int (nomark _)) (pss_one (ps_asg (pe_ix ix_list (pe_lst (pa_cons pe_non (pa_cons pe_int (pa_cons pe_str (pa_cons (pe_tup (pa_cons pe_str (pa_cons pe_str pa_nil))) (pa_cons (pe_tup pa_nil) (pa_cons (pe_lst (pa_cons (pe_tup (pa_cons pe_str pa_nil)) pa_nil)) pa_nil))))))) (pe_call (ok_law_take T) (hr.mono (by decide)) rfl T.m_law_take T.F_law_take.kp T.b_law_take .nil pass0 (pa_cons (pv 0) (pa_cons pe_int pa_nil))) (fun _ _ => rfl)) (pg_sub (pv 3) (pv 4) set_list))) pss_nil)
        (pss_cons (ps_if (pt_cmpR op_eq (pv 6) pe_int (nomark _)) (pss_one (ps_set (i := 3) sc_law_bent.nd rfl (Or.inl rfl) (pe_op op_cat (pe_op op_rep (pe_slice sl_list (pv 3) po_none (po_some pe_int)) (pe_ix ix_list (pe_lst (pa_cons pe_int (pa_cons pe_int (pa_cons pe_int pa_nil)))) (pe_call (ok_law_take T) (hr.mono (by decide)) rfl T.m_law_take T.F_law_take.kp T.b_law_take .nil pass0 (pa_cons (pv 0) (pa_cons pe_int pa_nil))) (fun _ _ => rfl))) (pv 3)))) pss_nil)
        (pss_one (ps_ret (pv 3)))))))))))), ?_⟩
    refine ⟨_, rfl, l, _, rfl, .inl (SqL.of (B.same _ _ hl)), fun f hf => ?_⟩
    have hfp : f ≠ p := by
      obtain ⟨_, _, _, hp, _⟩ := B.box
      exact (ne_of_none hp hf).symm
    have hf0 : H0 f = none := B.same.free hf
    have b0 := B.new (o := .lst xs) hf
    refine ⟨_, rfl, _, rfl, f, _, rfl, .inl (SqL.of (b0.1.same _ _ upd_same)), _, p, _, (xs.length : Nat), rfl, b0.1, by omega, by omega, by omega, fun z1 H1 z10 z11 b1 => ?_⟩
    refine ⟨_, rfl, _, rfl, f, _, rfl, .inl (SqL.of (b1.same _ _ upd_same)), _, p, _, (xs.length : Nat), rfl, b1, by omega, by omega, by omega, fun z2 H2 z20 z21 b2 => ⟨_, _, rfl, ?_⟩⟩
    refine ⟨_, rfl, _, p, _, 6, rfl, b2, by omega, by decide, by decide, fun z3 H3 z30 z31 b3 => ?_⟩
    have hf3 : H3 f = some (.lst xs) := b3.same _ _ upd_same
    have C3 : BoxIn H0 H3 p (n + 3) := (b3.low b0.2).mono (by omega)
    clear b0 b1 b2 b3 hf
    refine ⟨fun σ H' => ∃ (G : Hp) (ys : List V), σ = [some (.ref p), some (.ref l), some (.ref m), some (.ref f), some (.int z1), some (.int z2), some (.int z3)] ∧ Same H0 G ∧ BoxIn G H' p (n + 3) ∧ G f = none ∧ H' f = some (.lst ys) ∧ (∀ y ∈ ys, GV K G y) ∧ ys.length ≤ xs.length + 1 ∧ (ys = xs ∨ z3 < 1), ?_, ?_⟩
    · refine ⟨_, rfl, rfl, _, rfl, ?_⟩
      refine ite2 (fun c => ?_) (fun c => ?_)
      · have c' : z3 = 0 := by simpa using c
        have hi : z1.toNat < xs.length := by omega
        refine ⟨_, rfl, .inl ⟨rfl, _, .inl (.inl hf3)⟩, _, rfl, f, xs, z1, z1.toNat, xs[z1.toNat], rfl, rfl, hf3, by omega, by omega, (ixN_seq (ixN_nat z10 z11)).1, List.getElem?_eq_getElem hi, H0, xs.eraseIdx z1.toNat, rfl, Same.refl _, C3.mut hfp hf0, hf0, upd_same, fun y hy => hg y (List.mem_of_mem_eraseIdx hy), ?_, .inr (by omega)⟩
        rw [List.length_eraseIdx]
        split <;> omega
      · exact ⟨H0, xs, rfl, Same.refl _, C3, hf0, hf3, hg, by omega, .inl rfl⟩
    rintro σ H4 ⟨G, ys, rfl, sG, C, hGf, hHf, hgy, hly, hor⟩
    refine ⟨fun σ H' => ∃ (G : Hp) (ys : List V), σ = [some (.ref p), some (.ref l), some (.ref m), some (.ref f), some (.int z1), some (.int z2), some (.int z3)] ∧ Same H0 G ∧ BoxIn G H' p (n + 3) ∧ G f = none ∧ H' f = some (.lst ys) ∧ (∀ y ∈ ys, GV K G y) ∧ ys.length ≤ xs.length + 1 ∧ (ys = xs ∨ z3 < 2), ?_, ?_⟩
    · refine ⟨_, rfl, rfl, _, rfl, ?_⟩
      refine ite2 (fun c => ?_) (fun c => ?_)
      · have c' : z3 = 1 := by simpa using c
        obtain rfl : ys = xs := by
          rcases hor with q | q
          · exact q
          · omega
        obtain ⟨v2, hv2, hm2⟩ := atI_in (xs := ys) z20 z21
        refine ⟨_, rfl, .inl ⟨rfl, _, .inl (.inl hHf)⟩, _, rfl, _, rfl, _, rfl, f, ys, z2, v2, rfl, rfl, SqL.of hHf, hv2, f, ys, z1, v2, rfl, rfl, hHf, Nat.lt_of_lt_of_le (show ys.length < 41 by omega) (by decide), z10, by omega, ?_⟩
        refine ⟨G, _, rfl, sG, C.mut hfp hGf, hGf, upd_same, fun y hy => ?_, ?_, .inr (by omega)⟩
        · rcases List.mem_append.mp hy with q | q
          · rcases List.mem_append.mp q with q | q
            · exact hgy y (List.mem_of_mem_take q)
            · rw [List.mem_singleton.mp q]
              exact hgy v2 hm2
          · exact hgy y (List.mem_of_mem_drop q)
        · simp only [List.length_append, List.length_take, List.length_drop, List.length_cons, List.length_nil]
          omega
      · exact ⟨G, ys, rfl, sG, C.mono (by omega), hGf, hHf, hgy, hly, hor.imp id fun q => by omega⟩
    clear C3 hf3 hGf hHf hgy hly hor sG C
    rintro σ H5 ⟨G, ys, rfl, sG, C, hGf, hHf, hgy, hly, hor⟩
    refine ⟨fun σ H' => ∃ (G : Hp) (ys : List V), σ = [some (.ref p), some (.ref l), some (.ref m), some (.ref f), some (.int z1), some (.int z2), some (.int z3)] ∧ Same H0 G ∧ BoxIn G H' p (n + 3) ∧ G f = none ∧ H' f = some (.lst ys) ∧ (∀ y ∈ ys, GV K G y) ∧ ys.length ≤ xs.length + 1 ∧ (ys = xs ∨ z3 < 3), ?_, ?_⟩
    · refine ⟨_, rfl, rfl, _, rfl, ?_⟩
      refine ite2 (fun c => ?_) (fun c => ?_)
      · have c' : z3 = 2 := by simpa using c
        obtain rfl : ys = xs := by
          rcases hor with q | q
          · exact q
          · omega
        obtain ⟨v2, hv2, hm2⟩ := atI_in (xs := ys) z20 z21
        obtain ⟨v1, hv1, hm1⟩ := atI_in (xs := ys) z10 z11
        refine ⟨_, rfl, _, rfl, f, ys, z2, v2, rfl, rfl, SqL.of hHf, hv2, _, rfl, _, rfl, f, ys, z1, v1, rfl, rfl, SqL.of hHf, hv1, (by show 2 ≤ sizeLine; decide), fun t ht => ?_⟩
        have nft : f ≠ t := ne_of_none hHf ht
        refine ⟨t, _, rfl, SqT.of upd_same, rfl, v2, _, rfl, _, rfl, _, rfl, f, ys, z1, z1.toNat, rfl, rfl, (by rw [upd_ne nft]; exact hHf), ixN_nat z10 z11, v1, _, rfl, _, rfl, _, rfl, f, ys.set z1.toNat v2, z2, z2.toNat, rfl, rfl, upd_same, ixN_nat z20 (by rw [List.length_set]; exact z21), rfl, ?_⟩
        refine ⟨G, _, rfl, sG, ((C.keep (same_new ht)).mut hfp hGf).mut hfp hGf, hGf, upd_same, fun y hy => ?_, by rw [List.length_set, List.length_set]; omega, .inr (by omega)⟩
        rcases List.mem_or_eq_of_mem_set hy with q | q
        · rcases List.mem_or_eq_of_mem_set q with q | q
          · exact hgy y q
          · rw [q]
            exact hgy v2 hm2
        · rw [q]
          exact hgy v1 hm1
      · exact ⟨G, ys, rfl, sG, C.mono (by omega), hGf, hHf, hgy, hly, hor.imp id fun q => by omega⟩
    clear hGf hHf hgy hly hor sG C
    rintro σ H6 ⟨G, ys, rfl, sG, C, hGf, hHf, hgy, hly, hor⟩
    refine ⟨fun σ H' => ∃ (G : Hp) (ys : List V), σ = [some (.ref p), some (.ref l), some (.ref m), some (.ref f), some (.int z1), some (.int z2), some (.int z3)] ∧ Same H0 G ∧ BoxIn G H' p (n + 14) ∧ G f = none ∧ H' f = some (.lst ys) ∧ (∀ y ∈ ys, GV K G y) ∧ ys.length ≤ xs.length + 1 ∧ (ys = xs ∨ z3 < 4), ?_, ?_⟩
    · refine ⟨_, rfl, rfl, _, rfl, ?_⟩
      refine ite2 (fun c => ?_) (fun c => ?_)
      · have c' : z3 = 3 := by simpa using c
        obtain rfl : ys = xs := by
          rcases hor with q | q
          · exact q
          · omega
        have A := C.all
        have hfA : but H6 p f = some (.lst ys) := by rw [but_ne hfp]; exact hHf
        refine ⟨_, rfl, .inl ⟨rfl, _, .inl (.inl hHf)⟩, _, rfl, _, rfl, f, _, rfl, .inl (SqL.of hHf), _, _, rfl, rfl, _, p, _, (ys.length : Int) + 1, rfl, A.1, by omega, by omega, by omega, fun z H7 z0 z9 b1 => ?_⟩
        refine ⟨_, rfl, _, rfl, _, p, m, _, ms, rfl, b1, A.2 _ _ (sG _ _ hm), hm0, hmz, hmok, by omega, fun G1 H8 t ss s1 b2 ht hs3 hsok => ?_⟩
        have hf8 : H8 f = some (.lst ys) := b2.same _ _ (s1 _ _ hfA)
        have nt : t ≠ f := fun e => by
          have q := b2.same _ _ ht
          rw [e, hf8] at q
          cases q
        obtain ⟨sL, bL⟩ := less_ok (A.2.trans s1) b2 hGf
        refine ⟨f, ys, z, .ref t, rfl, rfl, hf8, Nat.lt_of_lt_of_le (show ys.length < 41 by omega) (by decide), z0, by omega, ?_⟩
        refine ⟨but G1 f, _, rfl, sG.trans sL, (bL.mut hfp but_same).mono (by omega), but_same, upd_same, fun y hy => ?_, ?_, .inr (by omega)⟩
        · rcases List.mem_append.mp hy with q | q
          · rcases List.mem_append.mp q with q | q
            · exact (hgy y (List.mem_of_mem_take q)).mono sL
            · rw [List.mem_singleton.mp q]
              exact gv_tup0 hs3 hsok (by rw [but_ne nt]; exact ht)
          · exact (hgy y (List.mem_of_mem_drop q)).mono sL
        · simp only [List.length_append, List.length_take, List.length_drop, List.length_cons, List.length_nil]
          omega
      · exact ⟨G, ys, rfl, sG, C.mono (by omega), hGf, hHf, hgy, hly, hor.imp id fun q => by omega⟩
    clear hGf hHf hgy hly hor sG C
    rintro σ H7 ⟨G, ys, rfl, sG, C, hGf, hHf, hgy, hly, hor⟩
    refine ⟨fun σ H' => ∃ (G : Hp) (ys : List V), σ = [some (.ref p), some (.ref l), some (.ref m), some (.ref f), some (.int z1), some (.int z2), some (.int z3)] ∧ Same H0 G ∧ BoxIn G H' p (n + 15) ∧ G f = none ∧ H' f = some (.lst ys) ∧ (∀ y ∈ ys, GV K G y) ∧ ys.length ≤ xs.length + 1 ∧ (ys = xs ∨ z3 < 5), ?_, ?_⟩
    · refine ⟨_, rfl, rfl, _, rfl, ?_⟩
      refine ite2 (fun c => ?_) (fun c => ?_)
      · have c' : z3 = 4 := by simpa using c
        obtain rfl : ys = xs := by
          rcases hor with q | q
          · exact q
          · omega
        have A := C.all
        have hfA : but H7 p f = some (.lst ys) := by rw [but_ne hfp]; exact hHf
        refine ⟨(by show 2 ≤ sizeLine; decide), fun t1 h1 => ⟨(by show 0 ≤ sizeLine; decide), fun t2 h2 => ⟨(by show 1 ≤ sizeLine; decide), fun t3 h3 => ⟨(by show 1 ≤ sizeLine; decide), fun t4 h4 => ⟨(by show 6 ≤ sizeLine; decide), fun t5 h5 => ?_⟩⟩⟩⟩⟩
        have b1 := A.1.new (o := .tup ((["end", "end"] : List Str).map V.str)) h1
        have b2 := b1.1.new (o := .tup (([] : List Str).map V.str)) h2
        have b3 := b2.1.new (o := .tup ((["end"] : List Str).map V.str)) h3
        have b4 := b3.1.new (o := .lst [.ref t3]) h4
        have b5 := b4.1.new (o := .lst [.non, .int 5, .str "look", .ref t1, .ref t2, .ref t4]) h5
        refine ⟨_, rfl, _, p, _, 6, rfl, b5.1, by omega, by decide, by decide, fun z H8 z0 z9 b6 => ?_⟩
        obtain ⟨odd, hv, hmv⟩ := atI_in (xs := [V.non, .int 5, .str "look", .ref t1, .ref t2, .ref t4]) z0 z9
        refine ⟨t5, _, z, odd, rfl, rfl, SqL.of (b6.same _ _ upd_same), hv, ?_⟩
        have m4 := b5.2
        have m3 := b4.2.trans m4
        have m2 := b3.2.trans m3
        have m1 := b2.2.trans m2
        have mA := b1.2.trans m1
        have q1 := m1 _ _ upd_same
        have q2 := m2 _ _ upd_same
        have q3 := m3 _ _ upd_same
        have q4 := m4 _ _ upd_same
        obtain ⟨G1, hG1⟩ : ∃ G1, G1 = upd (upd (upd (upd (upd (but H7 p) t1 (.tup ((["end", "end"] : List Str).map V.str))) t2 (.tup (([] : List Str).map V.str))) t3 (.tup ((["end"] : List Str).map V.str))) t4 (.lst [.ref t3])) t5 (.lst [.non, .int 5, .str "look", .ref t1, .ref t2, .ref t4]) := ⟨_, rfl⟩
        rw [← hG1] at b6 mA q1 q2 q3 q4
        have hfG := mA _ _ hfA
        have hf8 : H8 f = some (.lst ys) := b6.same _ _ hfG
        have nt : ∀ {t : Addr} {ss : List Str}, G1 t = some (.tup (ss.map V.str)) → t ≠ f := fun {t ss} h e => by
          rw [e, hfG] at h
          cases h
        have n4 : t4 ≠ f := fun e => by
          have q : H7 f = none ∨ H7 f = some (.lst ys) := .inr hHf
          rw [← e] at hHf
          rw [upd_ne, upd_ne, upd_ne] at h4
          · rw [hHf] at h4
            cases h4
          · exact fun e2 => by rw [e2] at hHf; rw [hHf] at h1; cases h1
          · exact fun e2 => by
              rw [e2] at hHf
              rw [upd_ne] at h2
              · rw [hHf] at h2
                cases h2
              · exact fun e3 => by rw [e3] at hHf; rw [hHf] at h1; cases h1
          · exact fun e2 => by
              rw [e2] at h4
              rw [upd_same] at h4
              cases h4
        obtain ⟨sL, bL⟩ := less_ok (A.2.trans mA) b6 hGf
        have hodd : GV K (but G1 f) odd := by
          simp only [List.mem_cons, List.not_mem_nil, or_false] at hmv
          rcases hmv with rfl | rfl | rfl | rfl | rfl | rfl
          · exact gv_none _ _
          · exact gv_int _ _ _
          · exact gv_str _ _ (by unfold sOk; decide +kernel)
          · exact gv_tup0 (ss := ["end", "end"]) (by decide) (by unfold sOk; decide +kernel) (by rw [but_ne (nt q1)]; exact q1)
          · exact gv_tup0 (ss := []) (by decide) (fun s h => by cases h) (by rw [but_ne (nt q2)]; exact q2)
          · exact gv_lst1 (by rw [but_ne n4]; exact q4) (by rw [but_ne (nt q3)]; exact q3)
        refine ⟨_, rfl, _, rfl, f, ys, z1, z1.toNat, rfl, rfl, hf8, ixN_nat z10 z11, ?_⟩
        refine ⟨but G1 f, _, rfl, sG.trans sL, (bL.mut hfp but_same).mono (by omega), but_same, upd_same, fun y hy => ?_, by rw [List.length_set]; omega, .inr (by omega)⟩
        rcases List.mem_or_eq_of_mem_set hy with q | q
        · exact (hgy y q).mono sL
        · rw [q]
          exact hodd
      · exact ⟨G, ys, rfl, sG, C.mono (by omega), hGf, hHf, hgy, hly, hor.imp id fun q => by omega⟩
    clear hGf hHf hgy hly hor sG C
    rintro σ H8 ⟨G, ys, rfl, sG, C, hGf, hHf, hgy, hly, hor⟩
    have A := C.all
    have hfA : but H8 p f = some (.lst ys) := by rw [but_ne hfp]; exact hHf
    refine ⟨_, rfl, rfl, _, rfl, ?_⟩
    refine ite2 (fun c => ?_) (fun c => ?_)
    · have c' : z3 = 5 := by simpa using c
      obtain rfl : ys = xs := by
        rcases hor with q | q
        · exact q
        · omega
      refine ⟨_, rfl, 1, rfl, f, ys, rfl, SqL.of hHf, fun t1 h1 => ⟨(by show 3 ≤ sizeLine; decide), fun t2 h2 => ?_⟩⟩
      have b1 := A.1.new (o := .lst (cutV ys none (some 1))) h1
      have b2 := b1.1.new (o := .lst (([0, 3, 9] : List Int).map V.int)) h2
      refine ⟨_, rfl, _, p, _, 3, rfl, b2.1, by omega, by decide, by decide, fun z H9 z0 z9 b3 => ?_⟩
      obtain ⟨v, hv, hmv⟩ := atI_in (xs := ([0, 3, 9] : List Int).map V.int) z0 z9
      refine ⟨t2, _, z, v, rfl, rfl, SqL.of (b3.same _ _ upd_same), hv, ?_⟩
      obtain ⟨i, hi, rfl⟩ := List.mem_map.mp hmv
      have hi2 : 0 ≤ i ∧ i ≤ 9 := by
        have all : ∀ i ∈ ([0, 3, 9] : List Int), 0 ≤ i ∧ i ≤ 9 := by decide
        exact all _ hi
      have e1 : cutV ys none (some 1) = ys.take 1 := cut_takeV ys (i := 1) h0
      rw [e1] at b1 b2 b3
      have l1 : (ys.take 1).length = 1 := by rw [List.length_take]; omega
      have l2 : (ys.take 1).length * i.toNat ≤ 9 := by rw [l1]; omega
      refine ⟨t1, i, ys.take 1, rfl, rfl, b3.same _ _ (b2.2 _ _ upd_same), by omega, by omega, Nat.le_trans l2 (by decide), fun t3 h3 => ?_⟩
      have b4 := b3.new (o := .lst (List.replicate i.toNat (ys.take 1)).flatten) h3
      have l3 : (List.replicate i.toNat (ys.take 1)).flatten.length ≤ 9 := by rw [len_rep, l1]; omega
      have mm := b1.2.trans (b2.2.trans b4.2)
      refine ⟨_, rfl, t3, f, _, ys, rfl, rfl, b4.1.same _ _ upd_same, b4.1.same _ _ (mm _ _ hfA), Nat.le_trans (Nat.add_le_add l3 hz) (by decide), fun r hr => ?_⟩
      have b5 := b4.1.new (o := .lst ((List.replicate i.toNat (ys.take 1)).flatten ++ ys)) hr
      refine ⟨_, rfl, k _ _ r _ (sG.trans (A.2.trans (mm.trans b5.2))) (b5.1.mono (by omega)) upd_same (by rw [List.length_append]; omega) fun y hy => ?_⟩
      refine GV.mono (hgy y ?_) (A.2.trans (mm.trans b5.2))
      rcases List.mem_append.mp hy with q | q
      · exact List.mem_of_mem_take (mem_rep q)
      · exact q
    · exact ⟨_, rfl, k _ _ f ys (sG.trans A.2) (A.1.mono (by omega)) hfA (by omega) fun y hy => (hgy y hy).mono A.2⟩
theorem ok_law_told (T : Txt K mg w) : FnOk P w K mg base CX0 6 T.f_law_told T.fd_law_told ["_law_value", "_law_kind"] (sp_told22 K) := by
  refine T.F_law_told.ok sc_law_told (fun vs H Q E h => ?_) (fun cdv A outer s H vs Q E hr h => ?_)
  · obtain ⟨x, o, rfl, _⟩ := h
    rfl
  · obtain ⟨x, o, rfl, hx, hok, k⟩ := h
    refine ⟨_, (pss_one (ps_try_manyAs (i := 2) (n := "e") rfl rfl sc_law_told.nd rfl rfl takes0 (fun W pn xe tk _ => by exact (pss_one (ps_ret (pe_lst (pa_cons pe_str (pa_cons (pe_callS (ok_is_program T) hr rfl T.m_is_program T.F_is_program.kp T.b_is_program (fun σ => passAt tk σ) (pa_cons (pv 0) (pa_cons (pv 1) pa_nil))) pa_nil))))))
          (HdsAs.cons ⟨rfl, by decide, Or.inl T.g_NoProgram⟩ (fun a oe cls d pn hz hf => by exact (pss_one (ps_ret (pe_lst (pa_cons pe_str (pa_cons (pe_xf T.y_NoProgram T.n_NoProgram hz hf (pv 2)) pa_nil)))))) HdsAs.nil))), ?_⟩
    have lk : ∀ v : V, List.lookup ("kind" : Str) [(("kind" : Str), v)] = some v := fun v => by simp [List.lookup]
    refine ⟨_, rfl, _, rfl, x, .str "", o, .str "", rfl, hx, hok, .str "", by decide +kernel, fun e d H' nd hd sm => ?_, fun kd e hk => ?_⟩
    · exact ⟨true, T.e_NoProgram_NoProgram, fun _ a ha => ⟨_, rfl, rfl, rfl, d, _, .str "", rfl, hd, lk _, (by show 2 ≤ sizeLine; decide), fun p hp => k p _ (sm.trans (same_new hp)) (sm.free hp) upd_same⟩, fun q => nomatch q⟩
    · exfalso
      injection e with e
      rw [← e] at hk
      revert hk
      decide +kernel
theorem ok_law (T : Txt K mg w) : FnOk P w K mg base CX0 7 T.f_law T.fd_law ["_law_script"] (sp_law K) := by
  refine T.F_law.ok sc_law (fun vs H Q E h => ?_) (fun cdv A outer s H vs Q E hr h => ?_)
  · obtain ⟨a, ns, rfl, _⟩ := h
    rfl
  · obtain ⟨a, ns, rfl, hS, hlen, k⟩ := h
    refine ⟨_, (pss_cons (ps_for PassesOwn.never rfl (pi_range1 rfl T.z_range (pa_cons (pe_callB (id := "max") (call_max2 rfl) (by rfl) T.z_max (by decide +kernel) (pa_cons pe_int (pa_cons (pe_callB (id := "min") (call_min2 rfl) (by rfl) T.z_min (by decide +kernel) (pa_cons pe_int (pa_cons (pe_callB (id := "len") call_len_seq (by rfl) T.z_len (by decide +kernel) (pa_cons (pv 0) pa_nil)) pa_nil))) pa_nil))) pa_nil)) (pg_name (i := 1) sc_law.nd rfl (Or.inl rfl))
          (pss_cons (ps_set (i := 2) sc_law.nd rfl (Or.inl rfl) (pe_call (ok_law_box T) (hr.mono (by decide)) rfl T.m_law_box T.F_law_box.kp T.b_law_box .nil pass0 (pa_cons (pe_call (ok_law_cell T) (hr.mono (by decide)) rfl T.m_law_cell T.F_law_cell.kp T.b_law_cell .nil pass0 (pa_cons (pv 0) (pa_cons (pv 1) pa_nil))) pa_nil)))
        (pss_cons (ps_set (i := 3) sc_law.nd rfl (Or.inl rfl) (pe_call (ok_law_names T) (hr.mono (by decide)) rfl T.m_law_names T.F_law_names.kp T.b_law_names .nil pass0 (pa_cons (pv 2) (pa_cons pe_int pa_nil))))
        (pss_one (ps_for PassesOwn.never rfl (pi_list (pe_slice sl_list (pe_call (ok_law_mixed T) (hr.mono (by decide)) rfl T.m_law_mixed T.F_law_mixed.kp T.b_law_mixed .nil pass0 (pa_cons (pv 2) (pa_cons (pe_call0 (ok_law_kinds T) (hr.mono (by decide)) rfl T.m_law_kinds T.F_law_kinds.kp T.b_law_kinds .nil pass0) pa_nil))) po_none (po_some pe_int))) (pg_name (i := 4) sc_law.nd rfl (Or.inl rfl))
          (pss_cons (ps_set (i := 5) sc_law.nd rfl (Or.inl rfl) (pe_call (ok_law_program T) (hr.mono (by decide)) rfl T.m_law_program T.F_law_program.kp T.b_law_program .nil pass0 (pa_cons (pv 2) (pa_cons (pv 4) (pa_cons (pv 3) pa_nil)))))
        (pss_cons (ps_if (PW.pt (pw_or (pt_not (pt_val (pe_call (ok_is_program T) (hr.mono (by decide)) rfl T.m_is_program T.F_is_program.kp T.b_is_program .nil passL (pa_cons (pv 5) (pa_cons (pv 4) pa_nil))))) (pw_or1 (pt_not (pt_val (pe_call (ok_law_is_program T) (hr.mono (by decide)) rfl T.m_law_is_program T.F_law_is_program.kp T.b_law_is_program .nil pass0 (pa_cons (pv 5) (pa_cons (pv 4) pa_nil)))))))) (pss_one (ps_ret pe_bl)) pss_nil)
        (pss_cons (ps_for PassesOwn.never rfl (pi_range1 rfl T.z_range (pa_cons pe_int pa_nil)) (pg_name (i := 6) sc_law.nd rfl (Or.inl rfl))
          (pss_cons (ps_set (i := 7) sc_law.nd rfl (Or.inl rfl) (pe_call (ok_law_bent T) (hr.mono (by decide)) rfl T.m_law_bent T.F_law_bent.kp T.b_law_bent .nil pass0 (pa_cons (pv 2) (pa_cons (pv 5) (pa_cons (pv 3) pa_nil)))))
        (C8.pss_cut (ps_if (PW.pt (pw_and (pt_cmpR op_eq (pv 6) pe_int (nomark _)) (pw_and1 (pt_cmpR (op_neD hr.units) (pv 7) (pe_lst pa_nil) (nomark _))))) (pss_one (ps_set (i := 7) sc_law.nd rfl (Or.inl rfl) (pe_call (ok_law_bent T) (hr.mono (by decide)) rfl T.m_law_bent T.F_law_bent.kp T.b_law_bent .nil pass0 (pa_cons (pv 2) (pa_cons (pv 7) (pa_cons (pv 3) pa_nil)))))) pss_nil)
        (pss_one (ps_for PassesOwn.never rfl (pi_list (pe_lst (pa_cons (pv 4) (pa_cons (pe_ix ix_list (pe_call0 (ok_law_kinds T) (hr.mono (by decide)) rfl T.m_law_kinds T.F_law_kinds.kp T.b_law_kinds .nil pass0) (pe_call (ok_law_take T) (hr.mono (by decide)) rfl T.m_law_take T.F_law_take.kp T.b_law_take .nil pass0 (pa_cons (pv 2) (pa_cons pe_int pa_nil))) (fun _ _ => rfl)) pa_nil)))) (pg_name (i := 8) sc_law.nd rfl (Or.inl rfl))
          (pss_cons (ps_set (i := 9) sc_law.nd rfl (Or.inl rfl) (pe_call (ok_is_program T) (hr.mono (by decide)) rfl T.m_is_program T.F_is_program.kp T.b_is_program .nil passL (pa_cons (pv 7) (pa_cons (pv 8) pa_nil))))
        (pss_one (ps_if (PW.pt (pw_or (pt_not (pt_val (pe_callB (id := "isinstance") call_isi (by rfl) T.z_isinstance (by decide +kernel) (pa_cons (pv 9) (pa_cons (pe_bltn (v := .ty "bool") (u := .type "bool") (by rfl) T.z_bool (by decide +kernel) rfl) pa_nil))))) (pw_or1 (pt_cmpR op_ne (pv 9) (pe_call (ok_law_is_program T) (hr.mono (by decide)) rfl T.m_law_is_program T.F_law_is_program.kp T.b_law_is_program .nil pass0 (pa_cons (pv 7) (pa_cons (pv 8) pa_nil))) (nomark _))))) (pss_one (ps_ret pe_bl)) pss_nil))))))))
        (pss_cons (ps_set (i := 10) sc_law.nd rfl (Or.inl rfl) (pe_ix ix_list (pe_lst (pa_cons pe_non (pa_cons pe_int (pa_cons pe_str (pa_cons (pe_tup pa_nil) (pa_cons (pe_callTy (T := "tuple") call_tuple_of (by rfl) T.z_tuple (by decide +kernel) (pa_cons (pv 5) pa_nil)) (pa_cons pe_dnewK (pa_cons (pe_lst pa_nil) (pa_cons (pe_lst (pa_cons pe_non pa_nil)) pa_nil))))))))) (pe_call (ok_law_take T) (hr.mono (by decide)) rfl T.m_law_take T.F_law_take.kp T.b_law_take .nil pass0 (pa_cons (pv 2) (pa_cons pe_int pa_nil))) (fun _ _ => rfl)))
        (pss_one (ps_if (PW.pt (pw_or (pt_val (pe_call (ok_is_program T) (hr.mono (by decide)) rfl T.m_is_program T.F_is_program.kp T.b_is_program .nil passL (pa_cons (pv 10) (pa_cons (pv 4) pa_nil)))) (pw_or1 (pt_cmpR (op_neS hr.units) (pe_call (ok_law_told T) hr rfl T.m_law_told T.F_law_told.kp T.b_law_told .nil pass0 (pa_cons (pv 10) (pa_cons pe_str pa_nil))) (pe_lst (pa_cons pe_str (pa_cons pe_str pa_nil))) (nomark _))))) (pss_one (ps_ret pe_bl)) pss_nil)))))))))))
        (pss_one (ps_ret pe_bl))), ?_⟩
    refine ⟨_, rfl, a, _, rfl, .inl hS, _, _, rfl, _, _, rfl, _, rfl, ?_, ?_, for_range (fun i σ H' => ∃ v1 v2 v3 v4 v5 v6 v7 v8 v9 v10, σ = [some (.ref a), v1, v2, v3, v4, v5, v6, v7, v8, v9, v10] ∧ Same H H') ⟨none, none, none, none, none, none, none, none, none, none, rfl, Same.refl H⟩ ?_ ?_⟩
    · repeat' split
      all_goals omega
    · repeat' split
      all_goals omega
    · rintro i σ H1 hi ⟨v1, v2, v3, v4, v5, v6, v7, v8, v9, v10, rfl, s1⟩
      refine ⟨_, rfl, _, rfl, a, ns, _, rfl, s1.seq hS, (by omega), fun z => ⟨z, rfl, fun p o hp bx => ?_⟩⟩
      have B : BoxIn H1 (upd H1 p o) p 0 := ⟨same_new hp, hp, bx⟩
      refine ⟨_, rfl, H1, p, 0, 3, rfl, B, by decide, by decide, fun q H2 ss s2 hq0 hqp hq hlen3 hok B2 => ?_⟩
      have B3 := B2.all.1
      have m3 := B2.all.2
      refine ⟨_, rfl, rfl, fun lk hlk => ?_⟩
      have B4 := B3.new (o := .lst (kindsL.map V.str)) hlk
      refine ⟨_, p, lk, _, kindsL.map V.str, rfl, B4.1, upd_same, by decide, by decide, fun r0 H3 ys s3 hr00 hr0p hr0 hpm B5 => ?_⟩
      obtain ⟨ks, rfl, hks⟩ := strs_of (xs := ys) (W := kindsL) fun y hy => by
        obtain ⟨s, hs, e⟩ := List.mem_map.mp (hpm.mem_iff.mp hy)
        exact ⟨s, hs, e.symm⟩
      have kl : ks.length = 8 := by
        have := hpm.length_eq
        rw [List.length_map, List.length_map] at this
        exact this
      refine ⟨4, rfl, r0, _, rfl, SqL.of hr0, fun r hr => ?_⟩
      have e4 : cutV (ks.map V.str) none (some 4) = (ks.take 4).map V.str := by
        rw [show (4 : Int) = ((4 : Nat) : Int) from rfl, cut_takeV (ks.map V.str) (by rw [List.length_map, kl]; decide), List.map_take]
      rw [e4]
      have B6 := B5.all.1.new (o := .lst ((ks.take 4).map V.str)) hr
      obtain ⟨G, sG, BG, hGq, hGr⟩ : ∃ G, Same H1 G ∧ BoxIn G (upd H3 r (.lst ((ks.take 4).map V.str))) p 60 ∧ G q = some (.lst (ss.map V.str)) ∧ G r = some (.lst ((ks.take 4).map V.str)) := by
        have mm := B4.2.trans (B5.all.2.trans B6.2)
        exact ⟨_, m3.trans mm, B6.1.mono (by decide), mm _ _ (by rw [but_ne hqp]; exact hq), upd_same⟩
      have hks4 : ∀ s ∈ ks.take 4, s ∈ kindsL := fun s hs => hks s (List.mem_of_mem_take hs)
      have k4 : (ks.take 4).length = 4 := by rw [List.length_take, kl]; rfl
      clear B B2 B3 B4 B5 B6 m3 hr0 hpm hlk hr hks
      refine ⟨r, rfl, ⟨_, SqL.of upd_same⟩, for_list (K := K) (a := r) (xs := (ks.take 4).map V.str) (fun j σ H' => ∃ v4 v5 v6 v7 v8 v9 v10 : Option V, σ = [some (.ref a), some (.int (0 + (i : Int))), some (.ref p), some (.ref q), v4, v5, v6, v7, v8, v9, v10] ∧ BoxIn G H' p (60 + 500 * j)) ⟨v4, v5, v6, v7, v8, v9, v10, rfl, BG⟩ (fun j σ H' _ ⟨_, _, _, _, _, _, _, _, b⟩ => SqL.of (b.same _ _ hGr)) ?_ ?_⟩
      · rintro j x σ H4 hx ⟨v4, v5, v6, v7, v8, v9, v10, rfl, BK⟩
        rw [List.getElem?_map] at hx
        obtain ⟨kd, hkd, rfl⟩ := Option.map_eq_some_iff.mp hx
        have hk : kd ∈ kindsL := hks4 kd (List.mem_of_getElem? hkd)
        have hj : j < 4 := by
          have := (List.getElem?_eq_some_iff.mp hkd).1
          omega
        refine ⟨_, rfl, _, rfl, _, rfl, G, p, q, _, kd, ss, rfl, hk, BK, hGq, by omega, by omega, hok, by omega, fun G1 H5 l sss sG1 B5 hl hp1 hg1 => ?_⟩
        obtain ⟨xs, hx1, hx2⟩ := hl
        have pl := progS_len hp1
        have xl := dpAll_len hx2
        rw [List.length_map] at xl
        obtain ⟨vd, pok⟩ := good_list hg1 (by omega) ⟨xs, hx1, hx2⟩
        refine ⟨_, rfl, _, rfl, .ref l, .str kd, _, .str kd, rfl, vd.mono B5.same, pok, .str kd, kindSh kd hk, kindNo hk, fun k2 e hk2 H6 s6 => ?_⟩
        injection e with e
        subst e
        refine ⟨_, rfl, iteFe (by rw [show progO kd (some (.list (sss.map strsD))) = true from hp1]; rfl) ?_⟩
        refine ⟨_, rfl, _, rfl, .ref l, _, kd, rfl, vd.mono (B5.same.trans s6), pok, hk, fun H7 s7 => ?_⟩
        refine ⟨_, rfl, iteFe (by rw [show progO kd (some (.list (sss.map strsD))) = true from hp1]; rfl) ?_⟩
        obtain ⟨N, hN⟩ : ∃ N, N = 60 + 500 * j + 200 := ⟨_, rfl⟩
        have B7 : BoxIn G1 H7 p N := hN ▸ B5.keep (s6.trans s7)
        clear B5 s6 s7 vd pok
        refine ⟨4, rfl, by decide, by decide, for_range (fun t σ H' => ∃ v6 v7 v8 v9 v10 : Option V, σ = [some (.ref a), some (.int (0 + (i : Int))), some (.ref p), some (.ref q), some (.str kd), some (.ref l), v6, v7, v8, v9, v10] ∧ BoxIn G1 H' p (N + 70 * t)) ⟨v6, v7, v8, v9, v10, rfl, B7⟩ ?_ ?_⟩
        · rintro t σ H8 ht ⟨v6, v7, v8, v9, v10, rfl, BT⟩
          have ht : t < 4 := ht
          refine ⟨_, rfl, _, rfl, _, rfl, G1, p, l, q, _, xs, ss, rfl, BT, hx1, by omega, by omega, pl_gv hx2 hg1, sG1 _ _ hGq, by omega, by omega, hok, by omega, fun G2 H9 l2 ys sG2 B9 hl2 hy hgy => ?_⟩
          refine ⟨fun σ H' => ∃ (G3 : Hp) (l3 : Addr) (zs : List V), σ = [some (.ref a), some (.int (0 + (i : Int))), some (.ref p), some (.ref q), some (.str kd), some (.ref l), some (.int (0 + (t : Int))), some (.ref l3), v8, v9, v10] ∧ Same G1 G3 ∧ BoxIn G3 H' p (N + 70 * t + 60) ∧ G3 l3 = some (.lst zs) ∧ zs.length ≤ 40 ∧ ∀ z ∈ zs, GV K G3 z, ?_, ?_⟩
          · refine ⟨_, rfl, rfl, _, rfl, ?_⟩
            refine ite2 (fun c => ?_) (fun c => iteF ⟨G2, l2, ys, rfl, sG2, B9.mono (by omega), hl2, by omega, hgy⟩)
            obtain ⟨ds, i1, i2, i3, i4⟩ := gv_all hgy
            refine ⟨_, rfl, (by show 0 ≤ sizeLine; decide), fun l0 h0 => ?_⟩
            have s0 := same_new (o := .lst []) h0
            have B0 := B9.keep s0
            refine ⟨_, _, .lst (SqL.of (B0.same _ _ hl2)) (dpAll_mono B0.same i1), .lst (SqL.of upd_same) .nil, shaped_list (n := 3) (by decide) i3, shaped_nil, ?_⟩
            refine ⟨_, rfl, ?_⟩
            rw [eqv_nil]
            refine ite2 (fun c2 => ?_) (fun c2 => ⟨G2, l2, ys, rfl, sG2, B0.mono (by omega), hl2, by omega, hgy⟩)
            have y0 : 0 < ys.length := by
              rw [← i2]
              cases ds with
              | nil => cases c2
              | cons d r => simp
            exact ⟨_, rfl, _, rfl, _, rfl, G2, p, l2, q, _, ys, ss, rfl, B0, hl2, y0, by omega, hgy, sG2 _ _ (sG1 _ _ hGq), by omega, by omega, hok, by omega, fun G3 H10 l3 zs sG3 B10 hl3 hz hgz => ⟨G3, l3, zs, rfl, sG2.trans sG3, B10.mono (by omega), hl3, by omega, hgz⟩⟩
          · clear B9 BT B7 hgy hl2 sG2
            rintro σ H9 ⟨G3, l3, zs, rfl, sG3, B9, hl3, hz, hgz⟩
            obtain ⟨o3, vd3, pok3⟩ := gv_list (by omega) hgz hl3
            refine ⟨_, rfl, rfl, fun lk hlk => ?_⟩
            have c1 := B9.new (o := .lst (kindsL.map V.str)) hlk
            refine ⟨_, rfl, _, p, _, 8, rfl, c1.1, by omega, by decide, by decide, fun z H10 z0 z9 B10 => ?_⟩
            obtain ⟨v, hv, hmv⟩ := atI_in (xs := kindsL.map V.str) z0 z9
            refine ⟨lk, _, z, v, rfl, rfl, SqL.of (B10.same _ _ upd_same), hv, ?_⟩
            obtain ⟨ko, hko, rfl⟩ := List.mem_map.mp hmv
            refine ⟨(by show 2 ≤ sizeLine; decide), fun lt hlt => ?_⟩
            have s11 := same_new (o := .lst [.str kd, .str ko]) hlt
            have B11 := B10.keep s11
            have vd4 := vd3.mono (c1.2.trans B11.same)
            have B12 : BoxIn G1 (upd H10 lt (.lst [.str kd, .str ko])) p (N + 70 * (t + 1)) := (B11.low (sG3.trans c1.2)).mono (by omega)
            clear B9 B10 B11 vd3 c1 hmv
            refine ⟨lt, rfl, ⟨_, SqL.of upd_same⟩, for_list (K := K) (a := lt) (xs := [.str kd, .str ko]) (fun i' σ H' => ∃ v8 v9 : Option V, σ = [some (.ref a), some (.int (0 + (i : Int))), some (.ref p), some (.ref q), some (.str kd), some (.ref l), some (.int (0 + (t : Int))), some (.ref l3), v8, v9, v10] ∧ Same (upd H10 lt (.lst [.str kd, .str ko])) H') ⟨v8, v9, rfl, Same.refl _⟩ (fun i' σ H' _ ⟨_, _, _, s⟩ => SqL.of (s _ _ upd_same)) ?_ ?_⟩
            · rintro i' x σ H11 hx ⟨v8, v9, rfl, s12⟩
              obtain ⟨kx, hkx, rfl⟩ : ∃ kx, kx ∈ kindsL ∧ x = V.str kx := by
                have := List.mem_of_getElem? hx
                simp only [List.mem_cons, List.not_mem_nil, or_false] at this
                rcases this with rfl | rfl
                · exact ⟨_, hk, rfl⟩
                · exact ⟨_, hko, rfl⟩
              refine ⟨_, rfl, _, rfl, .ref l3, .str kx, o3, .str kx, rfl, vd4.mono s12, pok3, .str kx, kindSh kx hkx, kindNo hkx, fun k2 e hk2 H12 s13 => ?_⟩
              injection e with e
              subst e
              refine ⟨_, rfl, _, _, _, _, _, rfl, .ty _, .base (.bl _), kit_ty (r := true) (by decide +kernel), _, rfl, iteF ?_⟩
              refine ⟨_, rfl, _, rfl, _, rfl, .ref l3, o3, kx, rfl, vd4.mono (s12.trans s13), pok3, hkx, fun H13 s14 => ⟨rfl, _, rfl, ?_⟩⟩
              refine iteFe (by simp) ?_
              exact ⟨_, _, rfl, s12.trans (s13.trans s14)⟩
            · rintro σ H11 ⟨v8, v9, rfl, s12⟩
              exact ⟨_, _, _, _, _, rfl, B12.keep s12⟩
        · rintro σ H8 ⟨v6, v7, v8, v9, v10, rfl, BT⟩
          have BT : BoxIn G1 H8 p (N + 280) := BT
          refine ⟨(by show 0 ≤ sizeLine; decide), fun o1 ho1 => ?_⟩
          have b1 := BT.new (o := .tup []) ho1
          refine ⟨_, rfl, l, xs, rfl, .inl ⟨SqL.of (b1.1.same _ _ (b1.2 _ _ hx1)), fun o2 ho2 => ?_⟩⟩
          have b2 := b1.1.new (o := .tup xs) ho2
          intro o3 ho3
          have b3 := b2.1.new (o := .dK []) ho3
          refine ⟨(by show 0 ≤ sizeLine; decide), fun o4 ho4 => ⟨(by show 1 ≤ sizeLine; decide), fun o5 ho5 => ⟨(by show 8 ≤ sizeLine; decide), fun o6 ho6 => ?_⟩⟩⟩
          have b4 := b3.1.new (o := .lst []) ho4
          have b5 := b4.1.new (o := .lst [.non]) ho5
          have b6 := b5.1.new (o := .lst [.non, .int 5, .str "look", .ref o1, .ref o2, .ref o3, .ref o4, .ref o5]) ho6
          refine ⟨_, rfl, _, p, _, 8, rfl, b6.1, by omega, by decide, by decide, fun z H9 z0 z9 B9 => ?_⟩
          obtain ⟨odd, hv, hmv⟩ := atI_in (xs := [V.non, .int 5, .str "look", .ref o1, .ref o2, .ref o3, .ref o4, .ref o5]) z0 z9
          refine ⟨o6, _, z, odd, rfl, rfl, SqL.of (B9.same _ _ upd_same), hv, ?_⟩
          obtain ⟨G4, sG4, B9, oo, voo, pko, pfo⟩ : ∃ G4, Same G1 G4 ∧ BoxIn G4 H9 p (N + 281) ∧ OddP K G4 odd := by
            have m5 := b6.2
            have m4 := b5.2.trans m5
            have m3 := b4.2.trans m4
            have m2 := b3.2.trans m3
            have m1 := b2.2.trans m2
            have m0 := b1.2.trans m1
            refine ⟨_, m0, B9, ?_⟩
            simp only [List.mem_cons, List.not_mem_nil, or_false] at hmv
            rcases hmv with rfl | rfl | rfl | rfl | rfl | rfl | rfl | rfl
            · exact odd_none _ _
            · exact odd_int _ _
            · exact odd_look _ _
            · exact odd_tup (fun x h => by cases h) (m1 _ _ upd_same)
            · exact odd_tup (fun x h => (pl_gv hx2 hg1 x h).mono m0) (m2 _ _ upd_same)
            · exact odd_dic (m3 _ _ upd_same)
            · exact odd_lst0 (m4 _ _ upd_same)
            · exact odd_lst1 (m5 _ _ upd_same)
          refine ⟨_, rfl, _, rfl, odd, .str kd, oo, .str kd, rfl, voo.mono B9.same, pko, .str kd, kindSh kd hk, kindNo hk, fun k2 e hk2 H10 s10 => ?_⟩
          injection e with e
          subst e
          refine ⟨_, rfl, iteFe (pfo kd hk) ?_⟩
          refine ⟨_, rfl, odd, oo, rfl, voo.mono (B9.same.trans s10), pko, fun f Ha sa hf hfl => ⟨(by show 2 ≤ sizeLine; decide), fun g hg => ?_⟩⟩
          have sg := same_new (o := .lst [.str "kind", .str ""]) hg
          refine ⟨f, g, [.str "kind", .str ""], rfl, rfl, SqL.of (sg _ _ hfl), SqL.of upd_same, sure2 rfl, _, rfl, iteF ?_⟩
          exact ⟨_, _, _, _, _, _, _, rfl, ((B9.low (sG1.trans sG4)).keep (s10.trans (sa.trans sg))).mono (by omega)⟩
      · rintro σ H4 ⟨v4, v5, v6, v7, v8, v9, v10, rfl, BK⟩
        exact ⟨_, _, _, _, _, _, _, _, _, _, rfl, s1.trans (sG.trans BK.same)⟩
    · rintro σ H1 ⟨v1, v2, v3, v4, v5, v6, v7, v8, v9, v10, rfl, s1⟩
      exact k H1
end
theorem all_mk {l : PySem.W.OpenLaw} {w : World} {K : PySem.W.Frag} {h : Heap} {mg : Str → Option Value} {fa f0 f1 f2 f3 f4 f5 f6 f7 f8 f9 f10 f11 f12 f13 f14 f15 f16 f17 f18 f19 f20 f21 f22 f23 f24 f25 f26 f27 : Addr} {C_PartsError : Addr} {C_NoProgram : Addr} (X : K.In h) (G : h.Ns mainGlobals mg) (hfa : mg "law" = some (.ref fa))
    {od0 an0 : Option Addr} {sl0 : Array (Option Value)} {oc0 kV0 dc0 pm0 cd0 ct0 : Value}
    (a0 : PySem.W.findIn K (.ref C_NoProgram) "__init__" = some (some (.ref f0))) (l0 : K.lookup f0 = some ⟨oc0, od0, .func (PySem.W.fnOf "__init__" "NoProgram.__init__" (defArgs s_NoProgram_init) (defBody s_NoProgram_init) (defScope s_NoProgram_init) .none kV0 dc0 pm0 an0 cd0 ct0), sl0⟩) (c0 : PySem.W.codeIn K cd0 "NoProgram.__init__" = true) (k0 : PySem.W.keepIn K (.ref f0) = true)
    {od1 an1 : Option Addr} {sl1 : Array (Option Value)} {oc1 kV1 dc1 pm1 cd1 ct1 : Value}
    (a1 : PySem.W.nsIn K mainGlobals "is_name" = some (some (.ref f1))) (l1 : K.lookup f1 = some ⟨oc1, od1, .func (PySem.W.fnOf "is_name" "is_name" (defArgs s_is_name) (defBody s_is_name) (defScope s_is_name) .none kV1 dc1 pm1 an1 cd1 ct1), sl1⟩) (c1 : PySem.W.codeIn K cd1 "is_name" = true) (k1 : PySem.W.keepIn K (.ref f1) = true)
    {od2 an2 : Option Addr} {sl2 : Array (Option Value)} {oc2 kV2 dc2 pm2 cd2 ct2 : Value}
    (a2 : PySem.W.nsIn K mainGlobals "is_kind" = some (some (.ref f2))) (l2 : K.lookup f2 = some ⟨oc2, od2, .func (PySem.W.fnOf "is_kind" "is_kind" (defArgs s_is_kind) (defBody s_is_kind) (defScope s_is_kind) .none kV2 dc2 pm2 an2 cd2 ct2), sl2⟩) (c2 : PySem.W.codeIn K cd2 "is_kind" = true) (k2 : PySem.W.keepIn K (.ref f2) = true)
    {od3 an3 : Option Addr} {sl3 : Array (Option Value)} {oc3 kV3 dc3 pm3 cd3 ct3 : Value}
    (a3 : PySem.W.nsIn K mainGlobals "require_kind" = some (some (.ref f3))) (l3 : K.lookup f3 = some ⟨oc3, od3, .func (PySem.W.fnOf "require_kind" "require_kind" (defArgs s_require_kind) (defBody s_require_kind) (defScope s_require_kind) .none kV3 dc3 pm3 an3 cd3 ct3), sl3⟩) (c3 : PySem.W.codeIn K cd3 "require_kind" = true) (k3 : PySem.W.keepIn K (.ref f3) = true)
    {od4 an4 : Option Addr} {sl4 : Array (Option Value)} {oc4 kV4 dc4 pm4 cd4 ct4 : Value}
    (a4 : PySem.W.nsIn K mainGlobals "is_step" = some (some (.ref f4))) (l4 : K.lookup f4 = some ⟨oc4, od4, .func (PySem.W.fnOf "is_step" "is_step" (defArgs s_is_step) (defBody s_is_step) (defScope s_is_step) .none kV4 dc4 pm4 an4 cd4 ct4), sl4⟩) (c4 : PySem.W.codeIn K cd4 "is_step" = true) (k4 : PySem.W.keepIn K (.ref f4) = true)
    {od5 an5 : Option Addr} {sl5 : Array (Option Value)} {oc5 kV5 dc5 pm5 cd5 ct5 : Value}
    (a5 : PySem.W.nsIn K mainGlobals "is_program" = some (some (.ref f5))) (l5 : K.lookup f5 = some ⟨oc5, od5, .func (PySem.W.fnOf "is_program" "is_program" (defArgs s_is_program) (defBody s_is_program) (defScope s_is_program) .none kV5 dc5 pm5 an5 cd5 ct5), sl5⟩) (c5 : PySem.W.codeIn K cd5 "is_program" = true) (k5 : PySem.W.keepIn K (.ref f5) = true)
    {od6 an6 : Option Addr} {sl6 : Array (Option Value)} {oc6 kV6 dc6 pm6 cd6 ct6 : Value}
    (a6 : PySem.W.nsIn K mainGlobals "ends_well" = some (some (.ref f6))) (l6 : K.lookup f6 = some ⟨oc6, od6, .func (PySem.W.fnOf "ends_well" "ends_well" (defArgs s_ends_well) (defBody s_ends_well) (defScope s_ends_well) .none kV6 dc6 pm6 an6 cd6 ct6), sl6⟩) (c6 : PySem.W.codeIn K cd6 "ends_well" = true) (k6 : PySem.W.keepIn K (.ref f6) = true)
    {od7 an7 : Option Addr} {sl7 : Array (Option Value)} {oc7 kV7 dc7 pm7 cd7 ct7 : Value}
    (a7 : PySem.W.nsIn K mainGlobals "has_needed" = some (some (.ref f7))) (l7 : K.lookup f7 = some ⟨oc7, od7, .func (PySem.W.fnOf "has_needed" "has_needed" (defArgs s_has_needed) (defBody s_has_needed) (defScope s_has_needed) .none kV7 dc7 pm7 an7 cd7 ct7), sl7⟩) (c7 : PySem.W.codeIn K cd7 "has_needed" = true) (k7 : PySem.W.keepIn K (.ref f7) = true)
    {od8 an8 : Option Addr} {sl8 : Array (Option Value)} {oc8 kV8 dc8 pm8 cd8 ct8 : Value}
    (a8 : PySem.W.nsIn K mainGlobals "is_in_order" = some (some (.ref f8))) (l8 : K.lookup f8 = some ⟨oc8, od8, .func (PySem.W.fnOf "is_in_order" "is_in_order" (defArgs s_is_in_order) (defBody s_is_in_order) (defScope s_is_in_order) .none kV8 dc8 pm8 an8 cd8 ct8), sl8⟩) (c8 : PySem.W.codeIn K cd8 "is_in_order" = true) (k8 : PySem.W.keepIn K (.ref f8) = true)
    {od9 an9 : Option Addr} {sl9 : Array (Option Value)} {oc9 kV9 dc9 pm9 cd9 ct9 : Value}
    (a9 : PySem.W.nsIn K mainGlobals "comes_before" = some (some (.ref f9))) (l9 : K.lookup f9 = some ⟨oc9, od9, .func (PySem.W.fnOf "comes_before" "comes_before" (defArgs s_comes_before) (defBody s_comes_before) (defScope s_comes_before) .none kV9 dc9 pm9 an9 cd9 ct9), sl9⟩) (c9 : PySem.W.codeIn K cd9 "comes_before" = true) (k9 : PySem.W.keepIn K (.ref f9) = true)
    {od10 an10 : Option Addr} {sl10 : Array (Option Value)} {oc10 kV10 dc10 pm10 cd10 ct10 : Value}
    (a10 : PySem.W.nsIn K mainGlobals "step_text" = some (some (.ref f10))) (l10 : K.lookup f10 = some ⟨oc10, od10, .func (PySem.W.fnOf "step_text" "step_text" (defArgs s_step_text) (defBody s_step_text) (defScope s_step_text) .none kV10 dc10 pm10 an10 cd10 ct10), sl10⟩) (c10 : PySem.W.codeIn K cd10 "step_text" = true) (k10 : PySem.W.keepIn K (.ref f10) = true)
    {od11 an11 : Option Addr} {sl11 : Array (Option Value)} {oc11 kV11 dc11 pm11 cd11 ct11 : Value}
    (a11 : PySem.W.nsIn K mainGlobals "_law_cell" = some (some (.ref f11))) (l11 : K.lookup f11 = some ⟨oc11, od11, .func (PySem.W.fnOf "_law_cell" "_law_cell" (defArgs s_law_cell) (defBody s_law_cell) (defScope s_law_cell) .none kV11 dc11 pm11 an11 cd11 ct11), sl11⟩) (c11 : PySem.W.codeIn K cd11 "_law_cell" = true) (k11 : PySem.W.keepIn K (.ref f11) = true)
    {od12 an12 : Option Addr} {sl12 : Array (Option Value)} {oc12 kV12 dc12 pm12 cd12 ct12 : Value}
    (a12 : PySem.W.nsIn K mainGlobals "_law_box" = some (some (.ref f12))) (l12 : K.lookup f12 = some ⟨oc12, od12, .func (PySem.W.fnOf "_law_box" "_law_box" (defArgs s_law_box) (defBody s_law_box) (defScope s_law_box) .none kV12 dc12 pm12 an12 cd12 ct12), sl12⟩) (c12 : PySem.W.codeIn K cd12 "_law_box" = true) (k12 : PySem.W.keepIn K (.ref f12) = true)
    {od13 an13 : Option Addr} {sl13 : Array (Option Value)} {oc13 kV13 dc13 pm13 cd13 ct13 : Value}
    (a13 : PySem.W.nsIn K mainGlobals "_law_take" = some (some (.ref f13))) (l13 : K.lookup f13 = some ⟨oc13, od13, .func (PySem.W.fnOf "_law_take" "_law_take" (defArgs s_law_take) (defBody s_law_take) (defScope s_law_take) .none kV13 dc13 pm13 an13 cd13 ct13), sl13⟩) (c13 : PySem.W.codeIn K cd13 "_law_take" = true) (k13 : PySem.W.keepIn K (.ref f13) = true)
    {od14 an14 : Option Addr} {sl14 : Array (Option Value)} {oc14 kV14 dc14 pm14 cd14 ct14 : Value}
    (a14 : PySem.W.nsIn K mainGlobals "_law_mixed" = some (some (.ref f14))) (l14 : K.lookup f14 = some ⟨oc14, od14, .func (PySem.W.fnOf "_law_mixed" "_law_mixed" (defArgs s_law_mixed) (defBody s_law_mixed) (defScope s_law_mixed) .none kV14 dc14 pm14 an14 cd14 ct14), sl14⟩) (c14 : PySem.W.codeIn K cd14 "_law_mixed" = true) (k14 : PySem.W.keepIn K (.ref f14) = true)
    {od15 an15 : Option Addr} {sl15 : Array (Option Value)} {oc15 kV15 dc15 pm15 cd15 ct15 : Value}
    (a15 : PySem.W.nsIn K mainGlobals "_law_names" = some (some (.ref f15))) (l15 : K.lookup f15 = some ⟨oc15, od15, .func (PySem.W.fnOf "_law_names" "_law_names" (defArgs s_law_names) (defBody s_law_names) (defScope s_law_names) .none kV15 dc15 pm15 an15 cd15 ct15), sl15⟩) (c15 : PySem.W.codeIn K cd15 "_law_names" = true) (k15 : PySem.W.keepIn K (.ref f15) = true)
    {od16 an16 : Option Addr} {sl16 : Array (Option Value)} {oc16 kV16 dc16 pm16 cd16 ct16 : Value}
    (a16 : PySem.W.nsIn K mainGlobals "_law_kinds" = some (some (.ref f16))) (l16 : K.lookup f16 = some ⟨oc16, od16, .func (PySem.W.fnOf "_law_kinds" "_law_kinds" (defArgs s_law_kinds) (defBody s_law_kinds) (defScope s_law_kinds) .none kV16 dc16 pm16 an16 cd16 ct16), sl16⟩) (c16 : PySem.W.codeIn K cd16 "_law_kinds" = true) (k16 : PySem.W.keepIn K (.ref f16) = true)
    {od17 an17 : Option Addr} {sl17 : Array (Option Value)} {oc17 kV17 dc17 pm17 cd17 ct17 : Value}
    (a17 : PySem.W.nsIn K mainGlobals "_law_is_name" = some (some (.ref f17))) (l17 : K.lookup f17 = some ⟨oc17, od17, .func (PySem.W.fnOf "_law_is_name" "_law_is_name" (defArgs s_law_is_name) (defBody s_law_is_name) (defScope s_law_is_name) .none kV17 dc17 pm17 an17 cd17 ct17), sl17⟩) (c17 : PySem.W.codeIn K cd17 "_law_is_name" = true) (k17 : PySem.W.keepIn K (.ref f17) = true)
    {od18 an18 : Option Addr} {sl18 : Array (Option Value)} {oc18 kV18 dc18 pm18 cd18 ct18 : Value}
    (a18 : PySem.W.nsIn K mainGlobals "_law_is_step" = some (some (.ref f18))) (l18 : K.lookup f18 = some ⟨oc18, od18, .func (PySem.W.fnOf "_law_is_step" "_law_is_step" (defArgs s_law_is_step) (defBody s_law_is_step) (defScope s_law_is_step) .none kV18 dc18 pm18 an18 cd18 ct18), sl18⟩) (c18 : PySem.W.codeIn K cd18 "_law_is_step" = true) (k18 : PySem.W.keepIn K (.ref f18) = true)
    {od19 an19 : Option Addr} {sl19 : Array (Option Value)} {oc19 kV19 dc19 pm19 cd19 ct19 : Value}
    (a19 : PySem.W.nsIn K mainGlobals "_law_count" = some (some (.ref f19))) (l19 : K.lookup f19 = some ⟨oc19, od19, .func (PySem.W.fnOf "_law_count" "_law_count" (defArgs s_law_count) (defBody s_law_count) (defScope s_law_count) .none kV19 dc19 pm19 an19 cd19 ct19), sl19⟩) (c19 : PySem.W.codeIn K cd19 "_law_count" = true) (k19 : PySem.W.keepIn K (.ref f19) = true)
    {od20 an20 : Option Addr} {sl20 : Array (Option Value)} {oc20 kV20 dc20 pm20 cd20 ct20 : Value}
    (a20 : PySem.W.nsIn K mainGlobals "_law_order" = some (some (.ref f20))) (l20 : K.lookup f20 = some ⟨oc20, od20, .func (PySem.W.fnOf "_law_order" "_law_order" (defArgs s_law_order) (defBody s_law_order) (defScope s_law_order) .none kV20 dc20 pm20 an20 cd20 ct20), sl20⟩) (c20 : PySem.W.codeIn K cd20 "_law_order" = true) (k20 : PySem.W.keepIn K (.ref f20) = true)
    {od21 an21 : Option Addr} {sl21 : Array (Option Value)} {oc21 kV21 dc21 pm21 cd21 ct21 : Value}
    (a21 : PySem.W.nsIn K mainGlobals "_law_is_program" = some (some (.ref f21))) (l21 : K.lookup f21 = some ⟨oc21, od21, .func (PySem.W.fnOf "_law_is_program" "_law_is_program" (defArgs s_law_is_program) (defBody s_law_is_program) (defScope s_law_is_program) .none kV21 dc21 pm21 an21 cd21 ct21), sl21⟩) (c21 : PySem.W.codeIn K cd21 "_law_is_program" = true) (k21 : PySem.W.keepIn K (.ref f21) = true)
    {od22 an22 : Option Addr} {sl22 : Array (Option Value)} {oc22 kV22 dc22 pm22 cd22 ct22 : Value}
    (a22 : PySem.W.nsIn K mainGlobals "_law_drawn_step" = some (some (.ref f22))) (l22 : K.lookup f22 = some ⟨oc22, od22, .func (PySem.W.fnOf "_law_drawn_step" "_law_drawn_step" (defArgs s_law_drawn_step) (defBody s_law_drawn_step) (defScope s_law_drawn_step) .none kV22 dc22 pm22 an22 cd22 ct22), sl22⟩) (c22 : PySem.W.codeIn K cd22 "_law_drawn_step" = true) (k22 : PySem.W.keepIn K (.ref f22) = true)
    {od23 an23 : Option Addr} {sl23 : Array (Option Value)} {oc23 kV23 dc23 pm23 cd23 ct23 : Value}
    (a23 : PySem.W.nsIn K mainGlobals "_law_base" = some (some (.ref f23))) (l23 : K.lookup f23 = some ⟨oc23, od23, .func (PySem.W.fnOf "_law_base" "_law_base" (defArgs s_law_base) (defBody s_law_base) (defScope s_law_base) .none kV23 dc23 pm23 an23 cd23 ct23), sl23⟩) (c23 : PySem.W.codeIn K cd23 "_law_base" = true) (k23 : PySem.W.keepIn K (.ref f23) = true)
    {od24 an24 : Option Addr} {sl24 : Array (Option Value)} {oc24 kV24 dc24 pm24 cd24 ct24 : Value}
    (a24 : PySem.W.nsIn K mainGlobals "_law_program" = some (some (.ref f24))) (l24 : K.lookup f24 = some ⟨oc24, od24, .func (PySem.W.fnOf "_law_program" "_law_program" (defArgs s_law_program) (defBody s_law_program) (defScope s_law_program) .none kV24 dc24 pm24 an24 cd24 ct24), sl24⟩) (c24 : PySem.W.codeIn K cd24 "_law_program" = true) (k24 : PySem.W.keepIn K (.ref f24) = true)
    {od25 an25 : Option Addr} {sl25 : Array (Option Value)} {oc25 kV25 dc25 pm25 cd25 ct25 : Value}
    (a25 : PySem.W.nsIn K mainGlobals "_law_bent" = some (some (.ref f25))) (l25 : K.lookup f25 = some ⟨oc25, od25, .func (PySem.W.fnOf "_law_bent" "_law_bent" (defArgs s_law_bent) (defBody s_law_bent) (defScope s_law_bent) .none kV25 dc25 pm25 an25 cd25 ct25), sl25⟩) (c25 : PySem.W.codeIn K cd25 "_law_bent" = true) (k25 : PySem.W.keepIn K (.ref f25) = true)
    {od26 an26 : Option Addr} {sl26 : Array (Option Value)} {oc26 kV26 dc26 pm26 cd26 ct26 : Value}
    (a26 : PySem.W.nsIn K mainGlobals "_law_told" = some (some (.ref f26))) (l26 : K.lookup f26 = some ⟨oc26, od26, .func (PySem.W.fnOf "_law_told" "_law_told" (defArgs s_law_told) (defBody s_law_told) (defScope s_law_told) .none kV26 dc26 pm26 an26 cd26 ct26), sl26⟩) (c26 : PySem.W.codeIn K cd26 "_law_told" = true) (k26 : PySem.W.keepIn K (.ref f26) = true)
    {od27 an27 : Option Addr} {sl27 : Array (Option Value)} {oc27 kV27 dc27 pm27 cd27 ct27 : Value}
    (a27 : PySem.W.nsIn K mainGlobals "law" = some (some (.ref f27))) (l27 : K.lookup f27 = some ⟨oc27, od27, .func (PySem.W.fnOf "law" "law" (defArgs s_law) (defBody s_law) (defScope s_law) .none kV27 dc27 pm27 an27 cd27 ct27), sl27⟩) (c27 : PySem.W.codeIn K cd27 "law" = true) (k27 : PySem.W.keepIn K (.ref f27) = true)
    (g_PartsError : PySem.W.nsIn K mainGlobals "PartsError" = some (some (.ref C_PartsError)))
    (g_NoProgram : PySem.W.nsIn K mainGlobals "NoProgram" = some (some (.ref C_NoProgram)))
    {nm_NoProgram qn_NoProgram : Str} {N_NoProgram : Addr} {bs_NoProgram bm_NoProgram : List Value} {sn_NoProgram : List Str} {sub_NoProgram : List Value} {ab_NoProgram : Bool} {col_NoProgram : Option Bool} {dd_NoProgram : Option Addr} {m0_NoProgram m1_NoProgram m2_NoProgram m3_NoProgram m5_NoProgram : Option Value}
    (xL_NoProgram : K.lookup C_NoProgram = some (excClassObj nm_NoProgram qn_NoProgram C_NoProgram N_NoProgram bs_NoProgram bm_NoProgram true sn_NoProgram sub_NoProgram ab_NoProgram col_NoProgram dd_NoProgram m0_NoProgram m1_NoProgram m2_NoProgram m3_NoProgram m5_NoProgram "ValueError.__new__")) (rB_NoProgram : PySem.HandSPX.refsVE bm_NoProgram = true)
    (sa_NoProgram : PySem.W.findIn K (.ref C_NoProgram) "__setattr__" = some (some (.builtin "object.__setattr__"))) (ga_NoProgram : PySem.W.findIn K (.ref C_NoProgram) "__getattribute__" = some (some (.builtin "BaseException.__getattribute__"))) (gg_NoProgram : PySem.W.findIn K (.ref C_NoProgram) "__getattr__" = some none) (nb_NoProgram : PySem.W.findIn K (.ref C_NoProgram) "kind" = some none)
    (t1_NoProgram : PySem.W.typeIn K (.ref f0) = some (.type "function")) (kC_NoProgram : PySem.W.keepIn K (.ref C_NoProgram) = true) (eC_NoProgram : PySem.W.subIn K (.ref C_NoProgram) (.type "BaseException") = some true) (tC_NoProgram : PySem.W.typeIn K (.ref C_NoProgram) = some (.type "type")) (hC_NoProgram : PySem.W.hasDictIn K C_NoProgram = true)
    (e_NoProgram_NoProgram : PySem.W.exmOne K (.ref C_NoProgram) (.ref C_NoProgram) = some true)
    {A_KINDS : Addr} (w_KINDS : PySem.W.nsIn K mainGlobals "KINDS" = some (some (.ref A_KINDS)))
    {A_LOCKS : Addr} (w_LOCKS : PySem.W.nsIn K mainGlobals "LOCKS" = some (some (.ref A_LOCKS)))
    {es_LOCKS : Array DictEntry} {n_LOCKS : Nat} (la_LOCKS : K.lookup A_LOCKS = some ⟨.type "dict", none, .dict es_LOCKS n_LOCKS, #[]⟩) (lk_LOCKS : PySem.W.KeysLit w.params es_LOCKS.toList)
    {A_STEPS : Addr} (w_STEPS : PySem.W.nsIn K mainGlobals "STEPS" = some (some (.ref A_STEPS)))
    {es_STEPS : Array DictEntry} {n_STEPS : Nat} (la_STEPS : K.lookup A_STEPS = some ⟨.type "dict", none, .dict es_STEPS n_STEPS, #[]⟩) (lk_STEPS : PySem.W.KeysLit w.params es_STEPS.toList)
    {A_NEEDED : Addr} (w_NEEDED : PySem.W.nsIn K mainGlobals "NEEDED" = some (some (.ref A_NEEDED)))
    {es_NEEDED : Array DictEntry} {n_NEEDED : Nat} (la_NEEDED : K.lookup A_NEEDED = some ⟨.type "dict", none, .dict es_NEEDED n_NEEDED, #[]⟩) (lk_NEEDED : PySem.W.KeysLit w.params es_NEEDED.toList)
    {A_AT_MOST_ONCE : Addr} (w_AT_MOST_ONCE : PySem.W.nsIn K mainGlobals "AT_MOST_ONCE" = some (some (.ref A_AT_MOST_ONCE)))
    {A_ORDERS : Addr} (w_ORDERS : PySem.W.nsIn K mainGlobals "ORDERS" = some (some (.ref A_ORDERS)))
    (d_KINDS : datK K 4 (.ref A_KINDS) = some tb_KINDS)
    (d_LOCKS : tb_LOCKS.map (fun p => nsD K A_LOCKS p.1) = tb_LOCKS.map fun p => some p.2)
    (d_STEPS : tb_STEPS.map (fun p => nsD K A_STEPS p.1) = tb_STEPS.map fun p => some p.2)
    (d_NEEDED : tb_NEEDED.map (fun p => nsD K A_NEEDED p.1) = tb_NEEDED.map fun p => some p.2)
    (d_AT_MOST_ONCE : datK K 4 (.ref A_AT_MOST_ONCE) = some tb_AT_MOST_ONCE)
    (d_ORDERS : datK K 4 (.ref A_ORDERS) = some tb_ORDERS)
    {t_LONGEST_NAME : Tok} (v_LONGEST_NAME : PySem.W.nsIn K mainGlobals "LONGEST_NAME" = some (some (.int 8 t_LONGEST_NAME)))
    {t_MOST_STEPS : Tok} (v_MOST_STEPS : PySem.W.nsIn K mainGlobals "MOST_STEPS" = some (some (.int 12 t_MOST_STEPS)))
    (z_all : PySem.W.nsIn K mainGlobals "all" = some none)
    (z_isinstance : PySem.W.nsIn K mainGlobals "isinstance" = some none)
    (z_str : PySem.W.nsIn K mainGlobals "str" = some none)
    (z_len : PySem.W.nsIn K mainGlobals "len" = some none)
    (z_tuple : PySem.W.nsIn K mainGlobals "tuple" = some none)
    (z_list : PySem.W.nsIn K mainGlobals "list" = some none)
    (z_enumerate : PySem.W.nsIn K mainGlobals "enumerate" = some none)
    (z_max : PySem.W.nsIn K mainGlobals "max" = some none)
    (z_min : PySem.W.nsIn K mainGlobals "min" = some none)
    (z_range : PySem.W.nsIn K mainGlobals "range" = some none)
    (z_bool : PySem.W.nsIn K mainGlobals "bool" = some none)
    : ∃ fd : FuncData, (∀ (s : Shared) (v : Value), BindsTo s fd ⟨[v], []⟩ [("_law_script", v)]) ∧ ∀ base : Heap, K.In base → base.Ns mainGlobals mg → FnOk l.prog w K mg base CX0 7 fa fd ["_law_script"] (sp_law K) := by
  have e := hfa.symm.trans (PySem.W.mg_of X G a27)
  cases e
  let T : Txt K mg w := {
    f_NoProgram_init := f0, fd_NoProgram_init := _, F_NoProgram_init := fun_mk (st := s_NoProgram_init) l0 c0 k0, b_NoProgram_init := (fun_mk (st := s_NoProgram_init) l0 c0 k0).binds (ps := ["self", "kind"]) fun _ _ _ _ _ _ us hl => match us, hl with | [_, _], _ => rfl,
    f_is_name := f1, fd_is_name := _, F_is_name := fun_mk (st := s_is_name) l1 c1 k1, b_is_name := (fun_mk (st := s_is_name) l1 c1 k1).binds (ps := ["value"]) fun _ _ _ _ _ _ us hl => match us, hl with | [_], _ => rfl, m_is_name := PySem.W.mg_of X G a1,
    f_is_kind := f2, fd_is_kind := _, F_is_kind := fun_mk (st := s_is_kind) l2 c2 k2, b_is_kind := (fun_mk (st := s_is_kind) l2 c2 k2).binds (ps := ["value"]) fun _ _ _ _ _ _ us hl => match us, hl with | [_], _ => rfl, m_is_kind := PySem.W.mg_of X G a2,
    f_require_kind := f3, fd_require_kind := _, F_require_kind := fun_mk (st := s_require_kind) l3 c3 k3, b_require_kind := (fun_mk (st := s_require_kind) l3 c3 k3).binds (ps := ["value"]) fun _ _ _ _ _ _ us hl => match us, hl with | [_], _ => rfl, m_require_kind := PySem.W.mg_of X G a3,
    f_is_step := f4, fd_is_step := _, F_is_step := fun_mk (st := s_is_step) l4 c4 k4, b_is_step := (fun_mk (st := s_is_step) l4 c4 k4).binds (ps := ["value", "kind"]) fun _ _ _ _ _ _ us hl => match us, hl with | [_, _], _ => rfl, m_is_step := PySem.W.mg_of X G a4,
    f_is_program := f5, fd_is_program := _, F_is_program := fun_mk (st := s_is_program) l5 c5 k5, b_is_program := (fun_mk (st := s_is_program) l5 c5 k5).binds (ps := ["value", "kind"]) fun _ _ _ _ _ _ us hl => match us, hl with | [_, _], _ => rfl, m_is_program := PySem.W.mg_of X G a5,
    f_ends_well := f6, fd_ends_well := _, F_ends_well := fun_mk (st := s_ends_well) l6 c6 k6, b_ends_well := (fun_mk (st := s_ends_well) l6 c6 k6).binds (ps := ["words"]) fun _ _ _ _ _ _ us hl => match us, hl with | [_], _ => rfl, m_ends_well := PySem.W.mg_of X G a6,
    f_has_needed := f7, fd_has_needed := _, F_has_needed := fun_mk (st := s_has_needed) l7 c7 k7, b_has_needed := (fun_mk (st := s_has_needed) l7 c7 k7).binds (ps := ["words", "kind"]) fun _ _ _ _ _ _ us hl => match us, hl with | [_, _], _ => rfl, m_has_needed := PySem.W.mg_of X G a7,
    f_is_in_order := f8, fd_is_in_order := _, F_is_in_order := fun_mk (st := s_is_in_order) l8 c8 k8, b_is_in_order := (fun_mk (st := s_is_in_order) l8 c8 k8).binds (ps := ["words"]) fun _ _ _ _ _ _ us hl => match us, hl with | [_], _ => rfl, m_is_in_order := PySem.W.mg_of X G a8,
    f_comes_before := f9, fd_comes_before := _, F_comes_before := fun_mk (st := s_comes_before) l9 c9 k9, b_comes_before := (fun_mk (st := s_comes_before) l9 c9 k9).binds (ps := ["words", "earlier", "later"]) fun _ _ _ _ _ _ us hl => match us, hl with | [_, _, _], _ => rfl, m_comes_before := PySem.W.mg_of X G a9,
    f_step_text := f10, fd_step_text := _, F_step_text := fun_mk (st := s_step_text) l10 c10 k10, b_step_text := (fun_mk (st := s_step_text) l10 c10 k10).binds (ps := ["step"]) fun _ _ _ _ _ _ us hl => match us, hl with | [_], _ => rfl, m_step_text := PySem.W.mg_of X G a10,
    f_law_cell := f11, fd_law_cell := _, F_law_cell := fun_mk (st := s_law_cell) l11 c11 k11, b_law_cell := (fun_mk (st := s_law_cell) l11 c11 k11).binds (ps := ["_law_script", "_law_k"]) fun _ _ _ _ _ _ us hl => match us, hl with | [_, _], _ => rfl, m_law_cell := PySem.W.mg_of X G a11,
    f_law_box := f12, fd_law_box := _, F_law_box := fun_mk (st := s_law_box) l12 c12 k12, b_law_box := (fun_mk (st := s_law_box) l12 c12 k12).binds (ps := ["_law_cell_here"]) fun _ _ _ _ _ _ us hl => match us, hl with | [_], _ => rfl, m_law_box := PySem.W.mg_of X G a12,
    f_law_take := f13, fd_law_take := _, F_law_take := fun_mk (st := s_law_take) l13 c13 k13, b_law_take := (fun_mk (st := s_law_take) l13 c13 k13).binds (ps := ["_law_box_here", "_law_many"]) fun _ _ _ _ _ _ us hl => match us, hl with | [_, _], _ => rfl, m_law_take := PySem.W.mg_of X G a13,
    f_law_mixed := f14, fd_law_mixed := _, F_law_mixed := fun_mk (st := s_law_mixed) l14 c14 k14, b_law_mixed := (fun_mk (st := s_law_mixed) l14 c14 k14).binds (ps := ["_law_box_here", "_law_some"]) fun _ _ _ _ _ _ us hl => match us, hl with | [_, _], _ => rfl, m_law_mixed := PySem.W.mg_of X G a14,
    f_law_names := f15, fd_law_names := _, F_law_names := fun_mk (st := s_law_names) l15 c15 k15, b_law_names := (fun_mk (st := s_law_names) l15 c15 k15).binds (ps := ["_law_box_here", "_law_many"]) fun _ _ _ _ _ _ us hl => match us, hl with | [_, _], _ => rfl, m_law_names := PySem.W.mg_of X G a15,
    f_law_kinds := f16, fd_law_kinds := _, F_law_kinds := fun_mk (st := s_law_kinds) l16 c16 k16, b_law_kinds := (fun_mk (st := s_law_kinds) l16 c16 k16).binds (ps := []) fun _ _ _ _ _ _ us hl => match us, hl with | [], _ => rfl, m_law_kinds := PySem.W.mg_of X G a16,
    f_law_is_name := f17, fd_law_is_name := _, F_law_is_name := fun_mk (st := s_law_is_name) l17 c17 k17, b_law_is_name := (fun_mk (st := s_law_is_name) l17 c17 k17).binds (ps := ["_law_value"]) fun _ _ _ _ _ _ us hl => match us, hl with | [_], _ => rfl, m_law_is_name := PySem.W.mg_of X G a17,
    f_law_is_step := f18, fd_law_is_step := _, F_law_is_step := fun_mk (st := s_law_is_step) l18 c18 k18, b_law_is_step := (fun_mk (st := s_law_is_step) l18 c18 k18).binds (ps := ["_law_value", "_law_kind"]) fun _ _ _ _ _ _ us hl => match us, hl with | [_, _], _ => rfl, m_law_is_step := PySem.W.mg_of X G a18,
    f_law_count := f19, fd_law_count := _, F_law_count := fun_mk (st := s_law_count) l19 c19 k19, b_law_count := (fun_mk (st := s_law_count) l19 c19 k19).binds (ps := ["_law_words", "_law_some"]) fun _ _ _ _ _ _ us hl => match us, hl with | [_, _], _ => rfl, m_law_count := PySem.W.mg_of X G a19,
    f_law_order := f20, fd_law_order := _, F_law_order := fun_mk (st := s_law_order) l20 c20 k20, b_law_order := (fun_mk (st := s_law_order) l20 c20 k20).binds (ps := ["_law_words", "_law_first", "_law_later"]) fun _ _ _ _ _ _ us hl => match us, hl with | [_, _, _], _ => rfl, m_law_order := PySem.W.mg_of X G a20,
    f_law_is_program := f21, fd_law_is_program := _, F_law_is_program := fun_mk (st := s_law_is_program) l21 c21 k21, b_law_is_program := (fun_mk (st := s_law_is_program) l21 c21 k21).binds (ps := ["_law_value", "_law_kind"]) fun _ _ _ _ _ _ us hl => match us, hl with | [_, _], _ => rfl, m_law_is_program := PySem.W.mg_of X G a21,
    f_law_drawn_step := f22, fd_law_drawn_step := _, F_law_drawn_step := fun_mk (st := s_law_drawn_step) l22 c22 k22, b_law_drawn_step := (fun_mk (st := s_law_drawn_step) l22 c22 k22).binds (ps := ["_law_box_here", "_law_modes"]) fun _ _ _ _ _ _ us hl => match us, hl with | [_, _], _ => rfl, m_law_drawn_step := PySem.W.mg_of X G a22,
    f_law_base := f23, fd_law_base := _, F_law_base := fun_mk (st := s_law_base) l23 c23 k23, b_law_base := (fun_mk (st := s_law_base) l23 c23 k23).binds (ps := ["_law_box_here", "_law_kind"]) fun _ _ _ _ _ _ us hl => match us, hl with | [_, _], _ => rfl, m_law_base := PySem.W.mg_of X G a23,
    f_law_program := f24, fd_law_program := _, F_law_program := fun_mk (st := s_law_program) l24 c24 k24, b_law_program := (fun_mk (st := s_law_program) l24 c24 k24).binds (ps := ["_law_box_here", "_law_kind", "_law_modes"]) fun _ _ _ _ _ _ us hl => match us, hl with | [_, _, _], _ => rfl, m_law_program := PySem.W.mg_of X G a24,
    f_law_bent := f25, fd_law_bent := _, F_law_bent := fun_mk (st := s_law_bent) l25 c25 k25, b_law_bent := (fun_mk (st := s_law_bent) l25 c25 k25).binds (ps := ["_law_box_here", "_law_program_here", "_law_modes"]) fun _ _ _ _ _ _ us hl => match us, hl with | [_, _, _], _ => rfl, m_law_bent := PySem.W.mg_of X G a25,
    f_law_told := f26, fd_law_told := _, F_law_told := fun_mk (st := s_law_told) l26 c26 k26, b_law_told := (fun_mk (st := s_law_told) l26 c26 k26).binds (ps := ["_law_value", "_law_kind"]) fun _ _ _ _ _ _ us hl => match us, hl with | [_, _], _ => rfl, m_law_told := PySem.W.mg_of X G a26,
    f_law := fa, fd_law := _, F_law := fun_mk (st := s_law) l27 c27 k27, b_law := (fun_mk (st := s_law) l27 c27 k27).binds (ps := ["_law_script"]) fun _ _ _ _ _ _ us hl => match us, hl with | [_], _ => rfl, m_law := PySem.W.mg_of X G a27,
    C_PartsError := C_PartsError, g_PartsError := PySem.W.mg_of X G g_PartsError,
    C_NoProgram := C_NoProgram, g_NoProgram := PySem.W.mg_of X G g_NoProgram,
    x_NoProgram := ⟨⟨_, _, _, _, _, _, _, _, _, _, _, _, _, _, _, xL_NoProgram, rB_NoProgram⟩, sa_NoProgram, eC_NoProgram, tC_NoProgram, kC_NoProgram⟩, y_NoProgram := ⟨ga_NoProgram, gg_NoProgram, eC_NoProgram, hC_NoProgram⟩, n_NoProgram := nb_NoProgram, i_NoProgram := a0, t_NoProgram := t1_NoProgram,
    e_NoProgram_NoProgram := e_NoProgram_NoProgram,
    A_KINDS := A_KINDS, c_KINDS := PySem.W.mg_of X G w_KINDS,
    A_LOCKS := A_LOCKS, c_LOCKS := PySem.W.mg_of X G w_LOCKS,
    l_LOCKS := ⟨_, _, la_LOCKS, lk_LOCKS⟩,
    A_STEPS := A_STEPS, c_STEPS := PySem.W.mg_of X G w_STEPS,
    l_STEPS := ⟨_, _, la_STEPS, lk_STEPS⟩,
    A_NEEDED := A_NEEDED, c_NEEDED := PySem.W.mg_of X G w_NEEDED,
    l_NEEDED := ⟨_, _, la_NEEDED, lk_NEEDED⟩,
    A_AT_MOST_ONCE := A_AT_MOST_ONCE, c_AT_MOST_ONCE := PySem.W.mg_of X G w_AT_MOST_ONCE,
    A_ORDERS := A_ORDERS, c_ORDERS := PySem.W.mg_of X G w_ORDERS,
    d_KINDS := d_KINDS,
    d_LOCKS := d_LOCKS,
    d_STEPS := d_STEPS,
    d_NEEDED := d_NEEDED,
    d_AT_MOST_ONCE := d_AT_MOST_ONCE,
    d_ORDERS := d_ORDERS,
    t_LONGEST_NAME := t_LONGEST_NAME, c_LONGEST_NAME := PySem.W.mg_of X G v_LONGEST_NAME,
    t_MOST_STEPS := t_MOST_STEPS, c_MOST_STEPS := PySem.W.mg_of X G v_MOST_STEPS,
    z_all := PySem.W.mg_none_of X G z_all,
    z_isinstance := PySem.W.mg_none_of X G z_isinstance,
    z_str := PySem.W.mg_none_of X G z_str,
    z_len := PySem.W.mg_none_of X G z_len,
    z_tuple := PySem.W.mg_none_of X G z_tuple,
    z_list := PySem.W.mg_none_of X G z_list,
    z_enumerate := PySem.W.mg_none_of X G z_enumerate,
    z_max := PySem.W.mg_none_of X G z_max,
    z_min := PySem.W.mg_none_of X G z_min,
    z_range := PySem.W.mg_none_of X G z_range,
    z_bool := PySem.W.mg_none_of X G z_bool }
  exact ⟨T.fd_law, fun s v => .of_eq rfl, fun base _ _ => ok_law T⟩
theorem walk {l : PySem.W.OpenLaw} {q : Program} {loose : List Str} {XP : (Str → Option Value) → Heap → Prop} {YP : World → Heap → Prop} {d : DefRec} {K : Params → PySem.W.Frag} (hn : l.most = some 63) (hdf : d.params.defaults = [])
    (hY : ∀ (w : World) (h : Heap), YP w h → (K w.params).In h)
    (F : ∀ (w : World) (mg : Str → Option Value) (fa : Addr) (h : Heap), (K w.params).In h → h.Ns mainGlobals mg → mg d.name = some (.ref fa) →
      ∃ fd : FuncData, (∀ (s : Shared) (u : Value), BindsTo s fd ⟨[u], []⟩ [("_law_script", u)]) ∧ ∀ base : Heap, (K w.params).In base → base.Ns mainGlobals mg → FnOk l.prog w (K w.params) mg base CX0 7 fa fd ["_law_script"] (sp_law (K w.params))) :
    PySem.W.WalkO q loose XP YP l.row.toRowW d [] (fun f vs => PySem.call f vs) :=
  L2.walk_of (n := 63) (k := 7) (x := "_law_script") (CX := fun _ => CX0) (sp := fun w => sp_law (K w.params)) hn (by decide) hdf ⟨rfl, by decide, by decide⟩ hY F (fun _ _ a ns hl _ hS => ⟨a, ns, rfl, hS, hl, fun _ => rfl⟩) fun _ _ _ _ _ z => z
end My
open PySem PySem.W PyProof.Rows
set_option maxRecDepth 100000 in
set_option maxHeartbeats 0 in
theorem PySem.Challenge.cw_hungparts_k22_programs_of_kinds_holds : PySem.Challenge.rw_hungparts_k22_programs_of_kinds.Holds := by
  w_on; o_law; k_head; (case hw => w_witness2)
  k_fill
  refine My.walk (l := PySem.Challenge.rw_hungparts_k22_programs_of_kinds) rfl rfl (fun w h Y => PySem.W.kIn_of Y) ?F
  case F =>
    intro w mg fa h KX G hmg
    refine' My.all_mk KX G hmg ?a0 ?l0 ?c0 ?k0 ?a1 ?l1 ?c1 ?k1 ?a2 ?l2 ?c2 ?k2 ?a3 ?l3 ?c3 ?k3 ?a4 ?l4 ?c4 ?k4 ?a5 ?l5 ?c5 ?k5 ?a6 ?l6 ?c6 ?k6 ?a7 ?l7 ?c7 ?k7 ?a8 ?l8 ?c8 ?k8 ?a9 ?l9 ?c9 ?k9 ?a10 ?l10 ?c10 ?k10 ?a11 ?l11 ?c11 ?k11 ?a12 ?l12 ?c12 ?k12 ?a13 ?l13 ?c13 ?k13 ?a14 ?l14 ?c14 ?k14 ?a15 ?l15 ?c15 ?k15 ?a16 ?l16 ?c16 ?k16 ?a17 ?l17 ?c17 ?k17 ?a18 ?l18 ?c18 ?k18 ?a19 ?l19 ?c19 ?k19 ?a20 ?l20 ?c20 ?k20 ?a21 ?l21 ?c21 ?k21 ?a22 ?l22 ?c22 ?k22 ?a23 ?l23 ?c23 ?k23 ?a24 ?l24 ?c24 ?k24 ?a25 ?l25 ?c25 ?k25 ?a26 ?l26 ?c26 ?k26 ?a27 ?l27 ?c27 ?k27 ?g_PartsError ?g_NoProgram ?xL_NoProgram ?rB_NoProgram ?sa_NoProgram ?ga_NoProgram ?gg_NoProgram ?nb_NoProgram ?t1_NoProgram ?kC_NoProgram ?eC_NoProgram ?tC_NoProgram ?hC_NoProgram ?e_NoProgram_NoProgram ?w_KINDS ?w_LOCKS ?la_LOCKS ?lk_LOCKS ?w_STEPS ?la_STEPS ?lk_STEPS ?w_NEEDED ?la_NEEDED ?lk_NEEDED ?w_AT_MOST_ONCE ?w_ORDERS ?d_KINDS ?d_LOCKS ?d_STEPS ?d_NEEDED ?d_AT_MOST_ONCE ?d_ORDERS ?v_LONGEST_NAME ?v_MOST_STEPS ?z_all ?z_isinstance ?z_str ?z_len ?z_tuple ?z_list ?z_enumerate ?z_max ?z_min ?z_range ?z_bool
    (case g_PartsError => k_is)
    (case g_NoProgram => k_is)
    (case w_KINDS => k_is)
    (case w_LOCKS => k_is)
    (case w_STEPS => k_is)
    (case w_NEEDED => k_is)
    (case w_AT_MOST_ONCE => k_is)
    (case w_ORDERS => k_is)
    (case la_LOCKS => k_is)
    (case la_STEPS => k_is)
    (case la_NEEDED => k_is)
    (case a0 => k_is)
    (case l0 => k_is)
    (case c0 => k_is)
    (case k0 => k_is)
    (case a1 => k_is)
    (case l1 => k_is)
    (case c1 => k_is)
    (case k1 => k_is)
    (case a2 => k_is)
    (case l2 => k_is)
    (case c2 => k_is)
    (case k2 => k_is)
    (case a3 => k_is)
    (case l3 => k_is)
    (case c3 => k_is)
    (case k3 => k_is)
    (case a4 => k_is)
    (case l4 => k_is)
    (case c4 => k_is)
    (case k4 => k_is)
    (case a5 => k_is)
    (case l5 => k_is)
    (case c5 => k_is)
    (case k5 => k_is)
    (case a6 => k_is)
    (case l6 => k_is)
    (case c6 => k_is)
    (case k6 => k_is)
    (case a7 => k_is)
    (case l7 => k_is)
    (case c7 => k_is)
    (case k7 => k_is)
    (case a8 => k_is)
    (case l8 => k_is)
    (case c8 => k_is)
    (case k8 => k_is)
    (case a9 => k_is)
    (case l9 => k_is)
    (case c9 => k_is)
    (case k9 => k_is)
    (case a10 => k_is)
    (case l10 => k_is)
    (case c10 => k_is)
    (case k10 => k_is)
    (case a11 => k_is)
    (case l11 => k_is)
    (case c11 => k_is)
    (case k11 => k_is)
    (case a12 => k_is)
    (case l12 => k_is)
    (case c12 => k_is)
    (case k12 => k_is)
    (case a13 => k_is)
    (case l13 => k_is)
    (case c13 => k_is)
    (case k13 => k_is)
    (case a14 => k_is)
    (case l14 => k_is)
    (case c14 => k_is)
    (case k14 => k_is)
    (case a15 => k_is)
    (case l15 => k_is)
    (case c15 => k_is)
    (case k15 => k_is)
    (case a16 => k_is)
    (case l16 => k_is)
    (case c16 => k_is)
    (case k16 => k_is)
    (case a17 => k_is)
    (case l17 => k_is)
    (case c17 => k_is)
    (case k17 => k_is)
    (case a18 => k_is)
    (case l18 => k_is)
    (case c18 => k_is)
    (case k18 => k_is)
    (case a19 => k_is)
    (case l19 => k_is)
    (case c19 => k_is)
    (case k19 => k_is)
    (case a20 => k_is)
    (case l20 => k_is)
    (case c20 => k_is)
    (case k20 => k_is)
    (case a21 => k_is)
    (case l21 => k_is)
    (case c21 => k_is)
    (case k21 => k_is)
    (case a22 => k_is)
    (case l22 => k_is)
    (case c22 => k_is)
    (case k22 => k_is)
    (case a23 => k_is)
    (case l23 => k_is)
    (case c23 => k_is)
    (case k23 => k_is)
    (case a24 => k_is)
    (case l24 => k_is)
    (case c24 => k_is)
    (case k24 => k_is)
    (case a25 => k_is)
    (case l25 => k_is)
    (case c25 => k_is)
    (case k25 => k_is)
    (case a26 => k_is)
    (case l26 => k_is)
    (case c26 => k_is)
    (case k26 => k_is)
    (case a27 => k_is)
    (case l27 => k_is)
    (case c27 => k_is)
    (case k27 => k_is)
    (case xL_NoProgram => k_is)
    (case rB_NoProgram => decide +kernel)
    (case sa_NoProgram => k_is)
    (case ga_NoProgram => k_is)
    (case gg_NoProgram => k_is)
    (case nb_NoProgram => k_is)
    (case t1_NoProgram => k_is)
    (case kC_NoProgram => k_is)
    (case eC_NoProgram => k_is)
    (case tC_NoProgram => k_is)
    (case hC_NoProgram => k_is)
    (case e_NoProgram_NoProgram => first | rfl | k_is)
    (case lk_LOCKS => k_keys)
    (case lk_STEPS => k_keys)
    (case lk_NEEDED => k_keys)
    (case d_KINDS => kernel_rfl)
    (case d_LOCKS => kernel_rfl)
    (case d_STEPS => kernel_rfl)
    (case d_NEEDED => kernel_rfl)
    (case d_AT_MOST_ONCE => kernel_rfl)
    (case d_ORDERS => kernel_rfl)
    (case v_LONGEST_NAME => k_is)
    (case v_MOST_STEPS => k_is)
    (case z_all => k_is)
    (case z_isinstance => k_is)
    (case z_str => k_is)
    (case z_len => k_is)
    (case z_tuple => k_is)
    (case z_list => k_is)
    (case z_enumerate => k_is)
    (case z_max => k_is)
    (case z_min => k_is)
    (case z_range => k_is)
    (case z_bool => k_is)
#print axioms PySem.Challenge.cw_hungparts_k22_programs_of_kinds_holds

