import PyProof.Rows.All
import Wide.All
import OpenK.AllK
import Wide.FinOn
import HandS.ForMost
import HandS.ForExc
import HandS.IsInst
import HandS.Walk
import HandS.Codes
import HandS.SortKw
import HandS.TryMany
import HandS.ExcInit
import HandS.ExcField
import KE.DatumOrd
import HandS.More
import HandS.CallSlots
import HandS.Defaults
import HandS.TupAny
import HandS.Deep
import HandS.Small
import HandS.Style
import HandS.Words
import HandS.Strs
import HandS.Star
import KE.KUnpackStar
import HandS.Flow
import PySem.Challenge.RW_hungparts_k11_changes_and_roles
set_option Elab.async false
set_option linter.all false
set_option maxRecDepth 100000
set_option maxHeartbeats 4000000

namespace My
open PySem L2
def top (i : Nat) : Stmt := PySem.Challenge.pw_hungparts_k11_changes_and_roles.main.body.getD i (.Pass ⟨0, 0, 0, 0⟩)
abbrev s_InvalidChange_init : Stmt := inClass (top 2) 0
theorem sc_InvalidChange_init : FnScope ["self", "value"] ["self", "value"] (defScope s_InvalidChange_init) := ⟨rfl, rfl, rfl, by decide +kernel, rfl, by decide +kernel, by decide +kernel⟩
abbrev s_is_integer : Stmt := top 5
theorem sc_is_integer : FnScope ["value"] ["value"] (defScope s_is_integer) := ⟨rfl, rfl, rfl, by decide +kernel, rfl, by decide +kernel, by decide +kernel⟩
abbrev s_is_name : Stmt := top 6
theorem sc_is_name : FnScope ["value", "sign"] ["value"] (defScope s_is_name) := ⟨rfl, rfl, rfl, by decide +kernel, rfl, by decide +kernel, by decide +kernel⟩
abbrev s_is_span : Stmt := top 7
theorem sc_is_span : FnScope ["value", "low", "high"] ["value"] (defScope s_is_span) := ⟨rfl, rfl, rfl, by decide +kernel, rfl, by decide +kernel, by decide +kernel⟩
abbrev s_is_limit : Stmt := top 8
theorem sc_is_limit : FnScope ["value"] ["value"] (defScope s_is_limit) := ⟨rfl, rfl, rfl, by decide +kernel, rfl, by decide +kernel, by decide +kernel⟩
abbrev s_is_change : Stmt := top 10
theorem sc_is_change : FnScope ["value", "kind", "items"] ["value"] (defScope s_is_change) := ⟨rfl, rfl, rfl, by decide +kernel, rfl, by decide +kernel, by decide +kernel⟩
abbrev s_are_different_names : Stmt := top 11
theorem sc_are_different_names : FnScope ["values", "value"] ["values"] (defScope s_are_different_names) := ⟨rfl, rfl, rfl, by decide +kernel, rfl, by decide +kernel, by decide +kernel⟩
abbrev s_require_change : Stmt := top 12
theorem sc_require_change : FnScope ["value"] ["value"] (defScope s_require_change) := ⟨rfl, rfl, rfl, by decide +kernel, rfl, by decide +kernel, by decide +kernel⟩
abbrev s_roles : Stmt := top 13
theorem sc_roles : FnScope ["change", "kind", "items"] ["change"] (defScope s_roles) := ⟨rfl, rfl, rfl, by decide +kernel, rfl, by decide +kernel, by decide +kernel⟩
abbrev s_law_cell : Stmt := top 15
theorem sc_law_cell : FnScope ["_law_script", "_law_k"] ["_law_script", "_law_k"] (defScope s_law_cell) := ⟨rfl, rfl, rfl, by decide +kernel, rfl, by decide +kernel, by decide +kernel⟩
abbrev s_law_box : Stmt := top 16
theorem sc_law_box : FnScope ["_law_cell_here"] ["_law_cell_here"] (defScope s_law_box) := ⟨rfl, rfl, rfl, by decide +kernel, rfl, by decide +kernel, by decide +kernel⟩
abbrev s_law_take : Stmt := top 17
theorem sc_law_take : FnScope ["_law_box_here", "_law_many", "_law_digit", "_law_number"] ["_law_box_here", "_law_many"] (defScope s_law_take) := ⟨rfl, rfl, rfl, by decide +kernel, rfl, by decide +kernel, by decide +kernel⟩
abbrev s_law_mixed : Stmt := top 18
theorem sc_law_mixed : FnScope ["_law_box_here", "_law_some", "_law_left", "_law_k"] ["_law_box_here", "_law_some"] (defScope s_law_mixed) := ⟨rfl, rfl, rfl, by decide +kernel, rfl, by decide +kernel, by decide +kernel⟩
abbrev s_law_names : Stmt := top 19
theorem sc_law_names : FnScope ["_law_box_here", "_law_many", "_law_letters", "_law_words", "_law_stem", "_law_first", "_law_step", "_law_way", "_law_found", "_law_k", "_law_sign", "_law_name"] ["_law_box_here", "_law_many"] (defScope s_law_names) := ⟨rfl, rfl, rfl, by decide +kernel, rfl, by decide +kernel, by decide +kernel⟩
abbrev s_law_is_name : Stmt := top 20
theorem sc_law_is_name : FnScope ["_law_value", "_law_sign"] ["_law_value"] (defScope s_law_is_name) := ⟨rfl, rfl, rfl, by decide +kernel, rfl, by decide +kernel, by decide +kernel⟩
abbrev s_law_is_limit : Stmt := top 21
theorem sc_law_is_limit : FnScope ["_law_value"] ["_law_value"] (defScope s_law_is_limit) := ⟨rfl, rfl, rfl, by decide +kernel, rfl, by decide +kernel, by decide +kernel⟩
abbrev s_law_is_span : Stmt := top 22
theorem sc_law_is_span : FnScope ["_law_value"] ["_law_value"] (defScope s_law_is_span) := ⟨rfl, rfl, rfl, by decide +kernel, rfl, by decide +kernel, by decide +kernel⟩
abbrev s_law_is_change : Stmt := top 23
theorem sc_law_is_change : FnScope ["_law_value", "_law_given", "_law_names_here", "_law_name", "_law_k"] ["_law_value"] (defScope s_law_is_change) := ⟨rfl, rfl, rfl, by decide +kernel, rfl, by decide +kernel, by decide +kernel⟩
abbrev s_law_right : Stmt := top 24
theorem sc_law_right : FnScope ["_law_box_here", "_law_names_here", "_law_at", "_law_changes"] ["_law_box_here", "_law_names_here"] (defScope s_law_right) := ⟨rfl, rfl, rfl, by decide +kernel, rfl, by decide +kernel, by decide +kernel⟩
abbrev s_law_bent : Stmt := top 25
theorem sc_law_bent : FnScope ["_law_box_here", "_law_change", "_law_items", "_law_at", "_law_odd", "_law_way"] ["_law_box_here", "_law_change"] (defScope s_law_bent) := ⟨rfl, rfl, rfl, by decide +kernel, rfl, by decide +kernel, by decide +kernel⟩
abbrev s_law_told : Stmt := top 26
theorem sc_law_told : FnScope ["_law_value", "e"] ["_law_value"] (defScope s_law_told) := ⟨rfl, rfl, rfl, by decide +kernel, rfl, by decide +kernel, by decide +kernel⟩
abbrev s_law_roles : Stmt := top 27
theorem sc_law_roles : FnScope ["_law_change"] ["_law_change"] (defScope s_law_roles) := ⟨rfl, rfl, rfl, by decide +kernel, rfl, by decide +kernel, by decide +kernel⟩
abbrev s_law : Stmt := top 28
theorem sc_law : FnScope ["_law_script", "_law_k", "_law_box_here", "_law_change", "_law_values", "_law_value", "_law_due", "_law_known", "_law_told_here"] ["_law_script"] (defScope s_law) := ⟨rfl, rfl, rfl, by decide +kernel, rfl, by decide +kernel, by decide +kernel⟩

/-! ### further rules -/
section
variable {X : Cx}
theorem holdAll_ints {h : Heap} : ∀ {us : List Value} {ns : List Int}, Vals (ns.map V.int) us → PySem.W.HoldAll (α := Int) h us ns
  | _, [], .nil => ⟨_, .nil⟩
  | _, n :: r, .cons ⟨t, e⟩ k => by
    subst e
    obtain ⟨as, q⟩ := holdAll_ints (h := h) k
    exact ⟨_, .cons (.int n t) q⟩
theorem holds_int {h : Heap} {v : Value} {n : Int} (H : PySem.W.Holds (α := Int) h v n) : ∃ t, v = .int n t := by
  obtain ⟨as, r⟩ := H
  cases r
  exact ⟨_, rfl⟩
theorem maxOf_ints : ∀ (ys : List Int) (y : Int), PySem.W.maxOf y ys ∈ y :: ys ∧ ∀ n ∈ y :: ys, n ≤ PySem.W.maxOf y ys := by
  intro ys
  induction ys with
  | nil =>
    intro y
    exact ⟨List.mem_cons_self, fun n hn => by cases List.mem_singleton.mp hn; exact Int.le_refl _⟩
  | cons z r ih =>
    intro y
    have e : PySem.W.maxOf y (z :: r) = PySem.W.maxOf (if y < z then z else y) r := by
      show List.foldl _ (if decide (y < z) = true then z else y) r = _
      simp only [decide_eq_true_eq]
      rfl
    rw [e]
    obtain ⟨h1, h2⟩ := ih (if y < z then z else y)
    have hy := h2 _ List.mem_cons_self
    have hyz : y ≤ (if y < z then z else y) ∧ z ≤ (if y < z then z else y) := by
      split <;> omega
    refine ⟨?_, fun n hn => ?_⟩
    · rcases List.mem_cons.mp h1 with q | q
      · rw [q]
        split <;> simp
      · exact List.mem_cons_of_mem _ (List.mem_cons_of_mem _ q)
    · rcases List.mem_cons.mp hn with rfl | hn
      · omega
      · rcases List.mem_cons.mp hn with rfl | hn
        · omega
        · exact h2 n (List.mem_cons_of_mem _ hn)
theorem minOf_ints : ∀ (ys : List Int) (y : Int), PySem.W.minOf y ys ∈ y :: ys ∧ ∀ n ∈ y :: ys, PySem.W.minOf y ys ≤ n := by
  intro ys
  induction ys with
  | nil =>
    intro y
    exact ⟨List.mem_cons_self, fun n hn => by cases List.mem_singleton.mp hn; exact Int.le_refl _⟩
  | cons z r ih =>
    intro y
    have e : PySem.W.minOf y (z :: r) = PySem.W.minOf (if z < y then z else y) r := by
      show List.foldl _ (if decide (z < y) = true then z else y) r = _
      simp only [decide_eq_true_eq]
      rfl
    rw [e]
    obtain ⟨h1, h2⟩ := ih (if z < y then z else y)
    have hy := h2 _ List.mem_cons_self
    have hyz : (if z < y then z else y) ≤ y ∧ (if z < y then z else y) ≤ z := by
      split <;> omega
    refine ⟨?_, fun n hn => ?_⟩
    · rcases List.mem_cons.mp h1 with q | q
      · rw [q]
        split <;> simp
      · exact List.mem_cons_of_mem _ (List.mem_cons_of_mem _ q)
    · rcases List.mem_cons.mp hn with rfl | hn
      · omega
      · rcases List.mem_cons.mp hn with rfl | hn
        · omega
        · exact h2 n (List.mem_cons_of_mem _ hn)
/-- max(xs, default=d), xs a list of whole numbers -/
def rMaxD (K : PySem.W.Frag) : List V → List V → Hp → VK → Prop := fun xs zs H Q => ∃ (a : Addr) (ns : List Int) (d : V), xs = [.ref a] ∧ zs = [d] ∧ SqL K H a (ns.map V.int) ∧ (ns = [] → Q d H) ∧ ∀ m, m ∈ ns → (∀ n ∈ ns, n ≤ m) → Q (.int m) H
def rMinD (K : PySem.W.Frag) : List V → List V → Hp → VK → Prop := fun xs zs H Q => ∃ (a : Addr) (ns : List Int) (d : V), xs = [.ref a] ∧ zs = [d] ∧ SqL K H a (ns.map V.int) ∧ (ns = [] → Q d H) ∧ ∀ m, m ∈ ns → (∀ n ∈ ns, m ≤ n) → Q (.int m) H
theorem cr_maxD (hc : X.calm = true) (hu : X.A.units + 64 < cLine) : CallRK X (.builtin "max") ["default"] (rMaxD X.K) := by
  intro pins s σ H xs zs us ws Q I rx rz h
  obtain ⟨a, ns, d, rfl, rfl, hS, h0, h1⟩ := h
  obtain ⟨its, rv, pl, _⟩ := I.list hS
  obtain ⟨u, rfl, ru⟩ := vals1 rx
  obtain ⟨dv, rfl, rd⟩ := vals1 rz
  cases ru
  refine PySem.W.max_list_datum_default (α := Int) (xs := ns) (I.ok.hd hc) pl.isList (holdAll_ints (by simpa using rv)) (by show X.A.units + 1 + 0 < cLine; omega) (fun e h' tk k => ⟨d, H, I.kept k, rd, h0 e⟩) fun y ys i v h' tk e hi hh k => ?_
  subst e
  obtain ⟨t, rfl⟩ := holds_int hh
  have m := maxOf_ints ys y
  exact ⟨.int _, H, I.kept k, ⟨t, rfl⟩, h1 _ m.1 m.2⟩
theorem cr_minD (hc : X.calm = true) (hu : X.A.units + 64 < cLine) : CallRK X (.builtin "min") ["default"] (rMinD X.K) := by
  intro pins s σ H xs zs us ws Q I rx rz h
  obtain ⟨a, ns, d, rfl, rfl, hS, h0, h1⟩ := h
  obtain ⟨its, rv, pl, _⟩ := I.list hS
  obtain ⟨u, rfl, ru⟩ := vals1 rx
  obtain ⟨dv, rfl, rd⟩ := vals1 rz
  cases ru
  refine PySem.W.min_list_datum_default (α := Int) (xs := ns) (I.ok.hd hc) pl.isList (holdAll_ints (by simpa using rv)) (by show X.A.units + 1 + 0 < cLine; omega) (fun e h' tk k => ⟨d, H, I.kept k, rd, h0 e⟩) fun y ys i v h' tk e hi hh k => ?_
  subst e
  obtain ⟨t, rfl⟩ := holds_int hh
  have m := minOf_ints ys y
  exact ⟨.int _, H, I.kept k, ⟨t, rfl⟩, h1 _ m.1 m.2⟩
/-- what is surely the same: a flat value, or one object -/
def sureV (v : V) : Bool := flatB v || (match v with | .ref _ => true | _ => false)
theorem sure_eq {A : Around} {s : Shared} {v : V} {u u' : Value} (r : RelV v u) (r' : RelV v u') (f : sureV v = true) : SeqAt.EqAt A s u u' true := by
  cases v with
  | ref a =>
    cases (show u = Value.ref a from r)
    cases (show u' = Value.ref a from r')
    exact SeqAt.EqAt.same _
  | ty n => cases f
  | flt b => cases f
  | _ => exact eqAt_same r r' rfl
/-- two lists of the same items: they are not unlike -/
def rNeS (K : PySem.W.Frag) : R2 := fun x y H Q => ∃ (a b : Addr) (xs : List V), x = .ref a ∧ y = .ref b ∧ SqL K H a xs ∧ SqL K H b xs ∧ xs.all sureV = true ∧ Q (.bl false) H
theorem op_neS (hu : X.A.units + 64 < cLine) : OpR X (compareOp .NotEq) (rNeS X.K) := by
  intro pins s σ H x y v u Q I rx ry h
  obtain ⟨a, b, xs, rfl, rfl, ha, hb, hf, q⟩ := h
  cases (show v = Value.ref a from rx)
  cases (show u = Value.ref b from ry)
  obtain ⟨us, r1, p1, _⟩ := I.list ha
  obtain ⟨ws, r2, p2, _⟩ := I.list hb
  have hl : us.toArray.size = ws.toArray.size := by
    rw [List.size_toArray, List.size_toArray, ← r1.length, ← r2.length]
  refine SeqAt.RcNeAt.lists (e := fun _ => true) p1.isList p2.isList hl (by omega) (fun j h1 h2 => ?_) X.prog X.w _ _ ?_
  · have hj : j < xs.length := by
      rw [r1.length]
      simpa using h1
    obtain ⟨u1, e1, q1⟩ := r1.get (List.getElem?_eq_getElem hj)
    obtain ⟨u2, e2, q2⟩ := r2.get (List.getElem?_eq_getElem hj)
    have k1 : us.toArray[j] = u1 := by
      have := List.getElem?_eq_some_iff.mp e1
      simpa using this.2
    have k2 : ws.toArray[j] = u2 := by
      have := List.getElem?_eq_some_iff.mp e2
      simpa using this.2
    rw [k1, k2]
    exact sure_eq q1 q2 (List.all_eq_true.mp hf _ (List.getElem_mem hj))
  · have ea : ((List.range us.toArray.size).all fun _ => true) = true := List.all_eq_true.mpr fun _ _ => rfl
    rw [ea]
    exact ⟨.bl false, H, I, rfl, q⟩
end
/-! ### try with several clauses, each of which names the exception: slot i is the name's -/
/-- what the clauses wish of an exception of the body, one after the other -/
def wManyAs (K : PySem.W.Frag) (i : Nat) (Wout : WX) (D : Ends) : List (Value × (Addr → Value → Option Addr → TS)) → WX
  | [] => Wout
  | (c, ts) :: r => wAs K c i ts (wManyAs K i Wout D r) D
inductive HdsAs (X : Cx) (n : Str) : List ExceptHandler → List (Value × (Addr → Value → Option Addr → TS)) → Prop
  | nil : HdsAs X n [] []
  | cons {x : Str} {c : Value} {ts : Addr → Value → Option Addr → TS} {st : Stmt} {sts : List Stmt} {p1 p2 : Pos} {hs : List ExceptHandler} {l : List (Value × (Addr → Value → Option Addr → TS))} (hc : Names X x c)
      (hb : ∀ (a : Addr) (o : Obj) (cls : Value) (d : Option Addr) (pn : List (Addr × Obj)), Zc cls d o → (∃ vs, o.data = .fields vs) → PSs (X.suite a ((a, o) :: pn)) (st :: sts) (ts a cls d)) (r : HdsAs X n hs l) :
      HdsAs X n (.ExceptHandler (some (.Name x p1)) (some n) (st :: sts) p2 :: hs) ((c, ts) :: l)
section
variable {X : Cx} {n : Str} {i : Nat} {pos : Pos} {tb : WX → TS} {Wout : WX} {body : List Stmt}
theorem ps_try_manyAs {g₀ : ExceptHandler} {gs : List ExceptHandler} {l : List (Value × (Addr → Value → Option Addr → TS))} (stk : X.stack = X.env :: X.outer) (frm : X.env.frame = some X.env.locals) (nodup : X.N.Nodup) (at_i : X.N[i]? = some n) (lcl : X.env.kindOf n = some .local)
    (out : Takes X Wout) (hbody : ∀ (W : WX) (pn : List (Addr × Obj)) (xe : Value → Shared → Prop), Takes (X.tr pn xe) W → PassesOwn (model X.prog X.w) X.A X.env xe → PSs (X.tr pn xe) body (tb W)) (hands : HdsAs X n (g₀ :: gs) l) :
    PS X (.Try body (g₀ :: gs) [] [] pos) (fun D σ H => tb (wManyAs X.K i Wout D l) D σ H) := by
  constructor
  intro pins s σ H D I hw
  have fr2 : X.A.frames = some (X.env :: X.outer) := by
    rw [I.ok.frames, stk]
  apply wpAny_Try_except
  let xe' : Value → Shared → Prop := fun e s₁ => wpAny (model X.prog X.w) X.A (noteFrame e X.env)
    (fun _ s₂ => wpAny (model X.prog X.w) X.A (setFlight e none) (fun _ s₃ => wpAny (model X.prog X.w) X.A (handleBy e X.env (g₀ :: gs)) (SP X pins D) X.xe s₃) X.xe s₂) X.xe s₁
  have caught : Takes (X.tr (X.pn ++ pins) xe') (wManyAs X.K i Wout D l) := by
    rintro u s' ⟨a, B, sI, pins', σ', H', cls, d, rfl, J1, nb, up, sky, na, os, ag, wish⟩
    have J := J1.ofTry I.ok
    have sky2 : Sky B (X.env :: X.outer) a (Zc cls d) X.env.locals s'.heap := by
      rw [← stk]
      exact sky
    show wpAny _ X.A (noteFrame (.ref a) X.env) _ _ _
    apply Sky.land Zc.steady fr2 frm sky2
    intro hA fly upA
    have JA : Inv X pins σ' H' { s' with heap := hA } := J.landed nb fly.1 (up.trans upA) os ag
    obtain ⟨oA, wA, getA, zA, dataA⟩ := fly.there
    have off : a ∉ frs (X.env :: X.outer) := by
      intro hm
      obtain ⟨_, o2, get2, nodata⟩ := fly.2.2.1.mem hm
      have same := get2.symm.trans getA
      cases same
      exact nodata _ dataA
    have offL : a ≠ X.env.locals := by
      intro z
      refine off (List.mem_filterMap.mpr ⟨X.env, List.mem_cons_self, ?_⟩)
      rw [frm, z]
    have offF : a ∉ X.fs := by
      intro hm
      obtain ⟨e, he, q⟩ := List.mem_filterMap.mp hm
      exact off (List.mem_filterMap.mpr ⟨e, List.mem_cons_of_mem _ he, q⟩)
    have SA := JA.suite getA dataA na offL offF
    suffices go : ∀ {hs : List ExceptHandler} {l' : List (Value × (Addr → Value → Option Addr → TS))}, HdsAs X n hs l' → wManyAs X.K i Wout D l' cls d σ' H' →
        wpAny (model X.prog X.w) X.A (handleBy (.ref a) X.env hs) (SP X pins D) X.xe { s' with heap := hA } from go hands wish
    intro hs l' hk
    induction hk with
    | nil =>
      intro wi
      apply wpAny_handleBy_nil
      obtain ⟨_, _, _, o5, w5, T5, oT5, t5, g5, z5, d5, e5, r5⟩ := id fly
      unfold PySem.passOn
      apply wpAny_bind
      refine wpAny_field g5 d5 e5 ?_
      rw [if_neg (show ¬ ((Value.ref T5 == Value.none) = true) by simp)]
      have leave : wpAny (model X.prog X.w) X.A (setFlight (.ref a) X.env.frame) (fun _ s4 => wpAny (model X.prog X.w) X.A (throw (.ref a) : Sem Flow) (SP X pins D) X.xe s4) X.xe { s' with heap := hA } := by
        rw [frm]
        refine HandSPX.setFlight_upZ fly fun hB heldB upB => ?_
        apply wpAny_throw
        exact out _ _ ⟨a, B, sI, pins, σ', H', cls, d, rfl, J, nb, (up.trans upA).trans upB, .inr (.inr (by rw [stk]; exact heldB)), na, os, ag, wi⟩
      first
        | exact wpAny_bind leave
        | exact wpAny_bind (wpAny_pure (wpAny_bind leave))
    | @cons x c ts st sts p1 p2 hs2 l2 hc hb r ih =>
      rintro ⟨b, isb, yes, no⟩
      refine wpAny_handleBy_cons (codeAny_handlers_test ?_) (by intro q; cases q)
      have lookT : PySem.W.Looks (model X.prog X.w) hA (typeOf (.ref a)) cls := by
        intro A' Q E s2 k q
        exact wpAny_typeOf_ref (k _ _ getA) (by rw [zA.1]; exact q)
      have lookM := PySem.W.exm_one (M := model X.prog X.w) JA.kIn lookT isb
      have named : ∀ {Q E : Value → Shared → Prop}, Q c { s' with heap := hA } → wpAny (model X.prog X.w) (X.A.mark (some (.ref a))) (eval (.Name x p1) X.env) Q E { s' with heap := hA } := by
        intro Q E q
        obtain ⟨gl, nd, hm⟩ := hc
        rcases hm with hm | ⟨hm, bv, nn⟩
        · exact ld_glob (X := X.suite a ((a, oA) :: (X.pn ++ pins))) SA gl hm q nd
        · exact ld_blt (X := X.suite a ((a, oA) :: (X.pn ++ pins))) SA gl hm bv q nn nd
      apply named
      apply lookM.here
      cases b with
      | false =>
        show wpAny _ X.A (handleBy (.ref a) X.env hs2) _ _ _
        exact ih (no rfl)
      | true =>
        apply codeAny_handlers_suite_as
        refine HandSPX.lands_againZ fly fun hC flyC upC => ?_
        have JC : Inv X pins σ' H' { s' with heap := hC } := J.landed nb flyC.1 ((up.trans upA).trans upC) os ag
        obtain ⟨oC, wC, getC, zC, dataC⟩ := flyC.there
        have SC := JC.suite getC dataC na offL offF
        refine store_ok (X := X.suite a ((a, oC) :: (X.pn ++ pins))) (v := .ref a) SC nodup at_i (.inl lcl) rfl (fun s5 S5 => ?_) (.inr lcl)
        refine wpAny_mono ((hb a oC cls d (X.pn ++ pins) zC ⟨_, dataC⟩).run [] s5 _ H' _ S5 (yes rfl a na)) (fun fl s6 hq => ?_) (fun _ _ z => z.elim)
        have fin : ∀ {σ6 : L2.St} {H6 : Hp} {Q : Shared → Prop}, Inv (X.suite a ((a, oC) :: (X.pn ++ pins))) [] σ6 H6 s6 → (∀ s7, Inv X pins (σ6.set i none) H6 s7 → Q s7) →
            wpAny (model X.prog X.w) X.A (do bindName X.env n .none; unbindBehindTheSuite X.env n p2) (fun _ s7 => Q s7) X.xe s6 := by
          intro σ6 H6 Q S6 q
          exact gone_ok (S6.unsuite I.ok) nodup at_i lcl q
        cases fl with
        | ret u =>
          obtain ⟨v6, σ6, H6, S6, r6, q6⟩ := hq
          exact fin S6 fun s7 J7 => ⟨_, _, _, J7, r6, q6⟩
        | next =>
          obtain ⟨σ6, H6, S6, q6⟩ := hq
          exact fin S6 fun s7 J7 => ⟨_, _, J7, q6⟩
        | brk =>
          obtain ⟨σ6, H6, S6, q6⟩ := hq
          exact fin S6 fun s7 J7 => ⟨_, _, J7, q6⟩
        | cont =>
          obtain ⟨σ6, H6, S6, q6⟩ := hq
          exact fin S6 fun s7 J7 => ⟨_, _, J7, q6⟩
  refine wpAny_mono ((hbody _ (X.pn ++ pins) xe' caught PassesOwn.looking).run [] s σ H D (I.toTry _) hw) (fun fl s1 hq => ?_) (fun _ _ he => he)
  cases fl with
  | ret u =>
    obtain ⟨v, σ', H', J', r', q⟩ := hq
    exact ⟨v, σ', H', J'.ofTry I.ok, r', q⟩
  | next =>
    obtain ⟨σ', H', J', q⟩ := hq
    exact wpAny_execs_nil ⟨σ', H', J'.ofTry I.ok, q⟩
  | brk =>
    obtain ⟨σ', H', J', q⟩ := hq
    exact ⟨σ', H', J'.ofTry I.ok, q⟩
  | cont =>
    obtain ⟨σ', H', J', q⟩ := hq
    exact ⟨σ', H', J'.ofTry I.ok, q⟩
end
/-! ### a def called with keywords (and perhaps positional values ahead), what leaves it wished for at the caller's slots -/
/-- what such a call binds, the parameters' order by a permutation of the values -/
structure KwB (K : PySem.W.Frag) (fd : FuncData) (ps : List Str) (n : Nat) (ks : List Str) (g : {α : Type} → List α → List α → List α) : Prop where
  to : ∀ (us ws : List Value), us.length = n → ws.length = ks.length → bindArgs fd ⟨us, ks.zip ws⟩ = pure (ps.zip (g us ws))
  rel : ∀ {vs : List V} {us : List Value} {zs : List V} {ws : List Value}, vs.length = n → zs.length = ks.length → Vals vs us → Vals zs ws → Vals (g vs zs) (g us ws)
def tCallKw (n m : Nat) (sp : Sp) (g : List V → List V → List V) (E : L2.St → XK) (t tk : TA) : TE := fun σ H Q => t σ H fun vs H1 => tk σ H1 fun zs H2 => vs.length = n ∧ zs.length = m ∧ sp (g vs zs) H2 Q (E σ)
section
variable {X : Cx} {CX : CXT} {k n : Nat} {f : Addr} {fd : FuncData} {ps ks : List Str} {sp : Sp} {E : L2.St → XK} {x : Str} {p pos : Pos} {e : Expr} {es : List Expr} {kws : List Keyword} {t tk : TA} {g : {α : Type} → List α → List α → List α}
theorem run_kw {pins : List (Addr × Obj)} {σ : L2.St} {H : Hp} {s : Shared} {Q : VK} {us ws : List Value} {vs zs : List V} (F : FnOk X.prog X.w X.K X.mg X.base CX k f fd ps sp) (room : Room k X.A) (bnd : KwB X.K fd ps n ks g) (px : PassesAt CX X σ (E σ))
    (I : Inv X pins σ H s) (rv : Vals vs us) (rz : Vals zs ws) (l1 : vs.length = n) (l2 : zs.length = ks.length) (hsp : sp (g vs zs) H Q (E σ)) : wpAny (model X.prog X.w) X.A (call (.ref f) us (ks.zip ws)) (EP X pins σ Q) X.xe s := by
  apply wpAny_call
  refine codeAny_mono (F.run X.A X.stack s H ⟨us, ks.zip ws⟩ (g us ws) (g vs zs) Q (E σ) room I.env0 (.of_eq (bnd.to us ws (rv.length.symm.trans l1) (rz.length.symm.trans l2))) (bnd.rel l1 l2 rv rz) hsp) fun r s' got => ?_
  match r, got with
  | .error er, got => exact px pins H s er s' I got
  | .ok (.ret u), got => exact I.after got
  | .ok .next, got => exact got.elim
  | .ok .brk, got => exact got.elim
  | .ok .cont, got => exact got.elim
/-- f(k = v, ..) -/
theorem pe_kw0 (F : FnOk X.prog X.w X.K X.mg X.base CX k f fd ps sp) (room : Room k X.A) (gl : Gl X x) (m : X.mg x = some (.ref f)) (kp : PySem.W.keepIn X.K (.ref f) = true) (bnd : KwB X.K fd ps 0 ks g) (px : ∀ σ, PassesAt CX X σ (E σ)) (kw : PK X kws tk)
    (h1 : (backToKw pos (keywordEach kws X.env)).all (·.1.isSome) = true := by rfl) (h2 : (backToKw pos (keywordEach kws X.env)).filterMap (·.1) = ks := by rfl) (h3 : (x == ("__debug__" : Str)) = false := by decide)
    (h4 : ((backTo pos (starEach [] X.env)).any (·.1) || (backToKw pos (keywordEach kws X.env)).any (·.1.isNone)) = false := by rfl) : PE X (.Call (.Name x p) [] kws pos) (tCallKw 0 ks.length sp g E tNil tk) := by
  constructor
  intro pins s σ H Q I h
  apply wpAny_Call_Name_kw
  refine ld_glob I gl m ?_ h3
  refine PySem.W.callWith_KW0 (h₀ := X.base) I.ok.mod.kin kp h1 ?_ h4
  refine thn (kw.run pos pins s σ H _ I h) fun ws s2 got => ?_
  obtain ⟨zs, H2, I2, rz, l1, l2, q2⟩ := got
  rw [h2]
  exact ⟨I2.kIn, run_kw (us := []) (vs := []) F room bnd (px σ) I2 .nil rz rfl l2 q2⟩
/-- f(e, .., k = v, ..) -/
theorem pe_kw (F : FnOk X.prog X.w X.K X.mg X.base CX k f fd ps sp) (room : Room k X.A) (gl : Gl X x) (m : X.mg x = some (.ref f)) (kp : PySem.W.keepIn X.K (.ref f) = true) (bnd : KwB X.K fd ps n ks g) (px : ∀ σ, PassesAt CX X σ (E σ)) (ha : PA X (e :: es) t) (kw : PK X kws tk)
    (h1 : (backToKw pos (keywordEach kws X.env)).all (·.1.isSome) = true := by rfl) (h2 : (backToKw pos (keywordEach kws X.env)).filterMap (·.1) = ks := by rfl) (h3 : (x == ("__debug__" : Str)) = false := by decide)
    (h5 : starEach (e :: es) X.env = (false, eval e X.env) :: starEach es X.env := by rfl) (h4 : ((backTo pos (starEach (e :: es) X.env)).any (·.1) || (backToKw pos (keywordEach kws X.env)).any (·.1.isNone)) = false := by rfl) :
    PE X (.Call (.Name x p) (e :: es) kws pos) (tCallKw n ks.length sp g E t tk) := by
  constructor
  intro pins s σ H Q I h
  apply wpAny_Call_Name_kw
  refine ld_glob I gl m ?_ h3
  refine PySem.W.callWith_KW (h₀ := X.base) I.ok.mod.kin kp h1 (thn (ha.run pos pins s σ H _ I h) fun us s1 got => ?_) h4 h5
  obtain ⟨vs, H1, I1, rv, q⟩ := got
  refine thn (kw.run pos pins s1 σ H1 _ I1 q) fun ws s2 got => ?_
  obtain ⟨zs, H2, I2, rz, l1, l2, q2⟩ := got
  rw [h2]
  exact ⟨I2.kIn, run_kw F room bnd (px σ) I2 rv rz l1 l2 q2⟩
theorem passAt_of {X : Cx} {CX : CXT} {E : XK} (h : Passes CX X E) (σ : L2.St) : PassesAt CX X σ E := fun pins H s e s' I c => h pins σ H s e s' I c
/-- in a def that lets exceptions out: what a callee lets out goes on -/
theorem passC {X : Cx} {E : XK} (tk : Takes X (fun cls d _ H => E cls d H)) : Passes (L2.CX X.prog X.w) X E := passes_call tk fun _ _ _ _ h => h
end
/-- the drawing box at p: three ints, drawn n times at most -/
def BoxAt (H : Hp) (p : Addr) (n : Nat) : Prop := ∃ d s c : Int, H p = some (.lst [.int d, .int s, .int c]) ∧ 0 ≤ d ∧ 0 ≤ s ∧ s < 2147483629 ∧ 0 ≤ c ∧ c ≤ n
/-- H0: all that is known beside the box -/
structure BoxIn (H0 H : Hp) (p : Addr) (n : Nat) : Prop where
  same : Same H0 H
  free : H0 p = none
  box : BoxAt H p n
theorem BoxAt.mono {H : Hp} {p : Addr} {n m : Nat} (b : BoxAt H p n) (h : n ≤ m) : BoxAt H p m := by
  obtain ⟨d, s, c, h1, h2, h3, h4, h5, h6⟩ := b
  exact ⟨d, s, c, h1, h2, h3, h4, h5, by omega⟩
theorem BoxIn.mono {H0 H : Hp} {p : Addr} {n m : Nat} (b : BoxIn H0 H p n) (h : n ≤ m) : BoxIn H0 H p m := ⟨b.same, b.free, b.box.mono h⟩
/-- a pure step behind it -/
theorem BoxIn.keep {H0 H H' : Hp} {p : Addr} {n : Nat} (b : BoxIn H0 H p n) (s : Same H H') : BoxIn H0 H' p n := by
  obtain ⟨d, s', c, h1, h⟩ := b.box
  exact ⟨b.same.trans s, b.free, d, s', c, s _ _ h1, h⟩
/-- a new object becomes known -/
theorem BoxIn.new {H0 H : Hp} {p q : Addr} {n : Nat} {o : HO} (b : BoxIn H0 H p n) (hq : H q = none) : BoxIn (upd H0 q o) (upd H q o) p n ∧ Same H0 (upd H0 q o) := by
  obtain ⟨d, s', c, h1, h⟩ := b.box
  have npq : p ≠ q := ne_of_none h1 hq
  refine ⟨⟨fun x u e => ?_, by rw [upd_ne npq]; exact b.free, d, s', c, by rw [upd_ne npq]; exact h1, h⟩, fun x u e => ?_⟩
  · by_cases hx : x = q
    · subst hx
      rw [upd_same] at e ⊢
      exact e
    · rw [upd_ne hx] at e ⊢
      exact b.same _ _ e
  · rw [upd_ne (ne_of_none e (b.same.free hq))]
    exact e
/-- all that is tracked now, the box aside, is known -/
def but (H : Hp) (p : Addr) : Hp := fun q => if q = p then none else H q
theorem but_same {H : Hp} {p : Addr} : but H p p = none := by unfold but; rw [if_pos rfl]
theorem but_ne {H : Hp} {p q : Addr} (h : q ≠ p) : but H p q = H q := by unfold but; rw [if_neg h]
theorem BoxIn.all {H0 H : Hp} {p : Addr} {n : Nat} (b : BoxIn H0 H p n) : BoxIn (but H p) H p n ∧ Same H0 (but H p) := by
  refine ⟨⟨fun x u e => ?_, but_same, b.box⟩, fun x u e => ?_⟩
  · by_cases hx : x = p
    · subst hx
      rw [but_same] at e
      cases e
    · rw [but_ne hx] at e
      exact e
  · have hx : x ≠ p := fun q => by
      rw [q, b.free] at e
      cases e
    rw [but_ne hx]
    exact b.same _ _ e

def sp_law_cell (K : PySem.W.Frag) : Sp := fun vs H Q _ => ∃ (a : Addr) (ns : List Int) (k : Int), vs = [.ref a, .int k] ∧ SqL K H a (ns.map V.int) ∧ 0 ≤ k ∧ ∀ z, Q (.int z) H
def sp_law_box : Sp := fun vs H Q _ => ∃ z : Int, vs = [.int z] ∧ ∀ p o, H p = none → BoxAt (upd H p o) p 0 → Q (.ref p) (upd H p o)
def sp_law_take : Sp := fun vs H Q _ => ∃ (H0 : Hp) (p : Addr) (n : Nat) (m : Int), vs = [.ref p, .int m] ∧ BoxIn H0 H p n ∧ n < 1000000 ∧ 0 < m ∧ m < 1000000 ∧
  ∀ (z : Int) (H' : Hp), 0 ≤ z → z < m → BoxIn H0 H' p (n + 1) → Q (.int z) H'
/-- what the law's promise is: a list of at most 63 ints is handed in, True comes out -/
def sp_law (K : PySem.W.Frag) : Sp := fun vs H Q _ => ∃ (a : Addr) (ns : List Int), vs = [.ref a] ∧ SqL K H a (ns.map V.int) ∧ ns.length ≤ 63 ∧ ∀ H', Q (.bl true) H'
/-! ### values as data -/
theorem same_t {K : PySem.W.Frag} {H H' : Hp} {a : Addr} {xs : List V} (e : Same H H') (h : SqT K H a xs) : SqT K H' a xs := by
  rcases h with (h | ⟨o, h⟩) | h
  · exact .inl (.inl (e _ _ h))
  · exact .inl (.inr ⟨o, e _ _ h⟩)
  · exact .inr h
mutual
theorem dp_mono {K : PySem.W.Frag} {H H' : Hp} (e : Same H H') : ∀ {v : V} {d : PyData}, Dp K H v d → Dp K H' v d
  | _, _, .non => .non
  | _, _, .bl b => .bl b
  | _, _, .int i => .int i
  | _, _, .str x => .str x
  | _, _, .lst h a => .lst (e.seq h) (dpAll_mono e a)
  | _, _, .tup h a => .tup (same_t e h) (dpAll_mono e a)
theorem dpAll_mono {K : PySem.W.Frag} {H H' : Hp} (e : Same H H') : ∀ {vs : List V} {ds : List PyData}, DpAll K H vs ds → DpAll K H' vs ds
  | _, _, .nil => .nil
  | _, _, .cons a b => .cons (dp_mono e a) (dpAll_mono e b)
end
theorem dpAll_get {K : PySem.W.Frag} {H : Hp} : ∀ {vs : List V} {ds : List PyData} {i : Nat} {v : V}, DpAll K H vs ds → vs[i]? = some v → ∃ d, ds[i]? = some d ∧ Dp K H v d
  | _, _, 0, _, .cons a _, h => ⟨_, rfl, by cases h; exact a⟩
  | _, _, i + 1, _, .cons _ b, h => dpAll_get (i := i) b h
theorem dpAll_len {K : PySem.W.Frag} {H : Hp} : ∀ {vs : List V} {ds : List PyData}, DpAll K H vs ds → vs.length = ds.length
  | _, _, .nil => rfl
  | _, _, .cons _ b => congrArg (· + 1) (dpAll_len b)
theorem dpAll_strs {K : PySem.W.Frag} {H : Hp} : ∀ ss : List Str, DpAll K H (ss.map V.str) (ss.map PyData.str)
  | [] => .nil
  | s :: r => .cons (.str s) (dpAll_strs r)
theorem dpAll_bls {K : PySem.W.Frag} {H : Hp} : ∀ bs : List Bool, DpAll K H (bs.map V.bl) (bs.map PyData.bool)
  | [] => .nil
  | b :: r => .cons (.bl b) (dpAll_bls r)
theorem eqv_nil (ds : List PyData) : PyData.eqv (.list ds) (.list []) = ds.isEmpty := by
  cases ds with
  | nil => simp [PyData.eqv, PyData.eqvAll]
  | cons d r => simp [PyData.eqv, PyData.eqvAll]
theorem shaped_nil : SeqAt.shaped (.list []) = true := by decide +kernel
theorem canAll_mem {ds : List PyData} : PyData.canLayAll0 ds = true ↔ ∀ d ∈ ds, d.canLay0 = true := by
  induction ds with
  | nil => simp [PyData.canLayAll0]
  | cons d r ih => simp [PyData.canLayAll0, ih]
theorem depthAll_le {ds : List PyData} {n : Nat} (h : ∀ d ∈ ds, d.depth ≤ n) : PyData.depthAll ds ≤ n := by
  induction ds with
  | nil => simp [PyData.depthAll]
  | cons d r ih =>
    have h1 := h d (List.mem_cons_self)
    have h2 := ih fun x hx => h x (List.mem_cons_of_mem _ hx)
    simp only [PyData.depthAll]
    omega
theorem depthAll_mem {ds : List PyData} {d : PyData} (h : d ∈ ds) : d.depth ≤ PyData.depthAll ds := by
  induction ds with
  | nil => cases h
  | cons e r ih =>
    simp only [PyData.depthAll]
    rcases List.mem_cons.mp h with rfl | h
    · omega
    · have := ih h
      omega
theorem shaped_iff {d : PyData} : SeqAt.shaped d = true ↔ d.canLay0 = true ∧ d.depth ≤ 64 := by
  unfold SeqAt.shaped
  rw [Bool.and_eq_true, decide_eq_true_iff]
/-- a list of data that are d deep at most -/
theorem shaped_list {ds : List PyData} {n : Nat} (hn : n < 64) (h : ∀ d ∈ ds, d.canLay0 = true ∧ d.depth ≤ n) : SeqAt.shaped (.list ds) = true := by
  refine shaped_iff.mpr ⟨?_, ?_⟩
  · simp only [PyData.canLay0]
    exact canAll_mem.mpr fun d hd => (h d hd).1
  · have := depthAll_le fun d hd => (h d hd).2
    simp only [PyData.depth]
    omega
theorem shaped_of_tuple {ds : List PyData} (h : SeqAt.shaped (.tuple ds) = true) {d : PyData} (hd : d ∈ ds) : d.canLay0 = true ∧ d.depth ≤ 63 := by
  obtain ⟨h1, h2⟩ := shaped_iff.mp h
  simp only [PyData.canLay0] at h1
  simp only [PyData.depth] at h2
  have := depthAll_mem hd
  exact ⟨canAll_mem.mp h1 d hd, by omega⟩
/-- a value and what it is: data of any depth, or a dict (none) -/
inductive VD (K : PySem.W.Frag) (H : Hp) : V → Option PyData → Prop where
  | dat {v : V} {d : PyData} : Dp K H v d → SeqAt.shaped d = true → (∀ s, d = .str s → s.length ≤ 1000) → VD K H v (some d)
  | dic {a : Addr} {kvs : List (Key × V)} : H a = some (.dK kvs) → VD K H (.ref a) none
theorem VD.mono {K : PySem.W.Frag} {H H' : Hp} (e : Same H H') {v : V} {o : Option PyData} (h : VD K H v o) : VD K H' v o := by
  cases h with
  | dat a b c => exact .dat (dp_mono e a) b c
  | dic a => exact .dic (e _ _ a)
def tyD : PyData → String
  | .none => "NoneType" | .bool _ => "bool" | .int _ => "int" | .str _ => "str" | .list _ => "list" | .tuple _ => "tuple" | .dict _ => "dict"
def tyO : Option PyData → String
  | none => "dict"
  | some d => tyD d
theorem dp_ty {K : PySem.W.Frag} {H : Hp} {v : V} {d : PyData} (h : Dp K H v d) : TyX K H v (.type (tyD d)) := by
  cases h with
  | non => exact .base .non
  | bl b => exact .base (.bl b)
  | int i => exact .base (.int i)
  | str x => exact .base (.str x)
  | lst h _ =>
    rcases h with (h | ⟨o, h⟩) | ⟨o, its, n, h, c, _⟩
    · exact .base (.lst h)
    · exact .base (.frz h)
    · exact .kList h c
  | tup h _ =>
    rcases h with (h | ⟨o, h⟩) | ⟨o, its, n, h, c, _⟩
    · exact .base (.tup h)
    · exact .fTuple h
    · exact .kTuple h c
theorem VD.ty {K : PySem.W.Frag} {H : Hp} {v : V} {o : Option PyData} (h : VD K H v o) : TyX K H v (.type (tyO o)) := by
  cases h with
  | dat a _ _ => exact dp_ty a
  | dic a => exact .base (.dK a)
def isT (T : String) (o : Option PyData) : Bool := tyO o == T || (T == "int" && tyO o == "bool")
theorem tyO_mem (o : Option PyData) : tyO o = "NoneType" ∨ tyO o = "bool" ∨ tyO o = "int" ∨ tyO o = "str" ∨ tyO o = "list" ∨ tyO o = "tuple" ∨ tyO o = "dict" := by
  rcases o with _ | d
  · simp [tyO]
  · cases d <;> simp [tyO, tyD]
theorem kit_o {K : PySem.W.Frag} (o : Option PyData) {T : String} (hT : T = "int" ∨ T = "bool" ∨ T = "str" ∨ T = "tuple") : PySem.W.kitOne K (.type (tyO o)) (.type T) = some (isT T o) := by
  have h := tyO_mem o
  unfold isT
  generalize tyO o = nm at h ⊢
  rcases hT with rfl | rfl | rfl | rfl
  all_goals
    rcases h with rfl | rfl | rfl | rfl | rfl | rfl | rfl
    all_goals exact kit_ty (by decide +kernel)
def nonO : Option PyData → Bool
  | some .none => true
  | _ => false
theorem vd_non {K : PySem.W.Frag} {H : Hp} {v : V} {o : Option PyData} (h : VD K H v o) : decide (v = .non) = nonO o := by
  cases h with
  | dat a _ _ => cases a <;> rfl
  | dic a => rfl
theorem iteFe {c : Bool} {A B : Prop} (h : c = false) (q : B) : if c = true then A else B := by
  subst h
  exact iteF q
theorem iteTe {c : Bool} {A B : Prop} (h : c = true) (q : A) : if c = true then A else B := by
  subst h
  exact iteT q
theorem tyes {te : TE} {σ : L2.St} {H : Hp} {R : V → Hp → Prop} {S : Hp → Prop} (h : te σ H R) : tYes σ H (fun b H3 => if b = true then te σ H3 R else S H3) := by
  show (if true = true then te σ H R else S H)
  exact iteT h
/-! ### comprehensions that change nothing: acc i is what is made behind i turns -/
theorem lc_acc {J : It} {n : Nat} {G : Hp → Prop} {item : Nat → V → Prop} {g : TG} {tt : TT} {te : TE} {vs : List Nat} {σ : L2.St} {H1 : Hp} {D : Addr} {Qd : Hp → Prop} (w : Walk J n G (fun i H x H' => H' = H ∧ item i x)) (hD : H1 D = none) (hG : ∀ H, Same H1 H → G H) (acc : Nat → List V) (h0 : acc 0 = []) (hz : ∀ i, i < n → (acc i).length < sizeLine)
    (hs : ∀ (i : Nat) (x : V) (H : Hp), i < n → item i x → Same H1 H → ∀ (R : V → Hp → Prop) (S : Hp → Prop), (∀ y H4, acc (i + 1) = acc i ++ [y] → Same H H4 → R y H4) → (∀ H3, acc (i + 1) = acc i → Same H H3 → S H3) →
      g x (wipe σ vs) H fun σ2 H2 => wipe σ2 vs = wipe σ vs ∧ tt σ2 H2 fun b H3 => if b = true then te σ2 H3 R else S H3)
    (hd : ∀ H, Same H1 H → H D = some (.lst (acc n)) → Qd H) : ∃ W : Nat → Nat → Hp → Prop, (∃ m, W 0 m (upd H1 D (.lst []))) ∧ ∀ i m H, W i m H →
      (J.stop i H ∧ Qd H) ∨ (J.go i H ∧ ∃ Nx : Hp → Prop, (∀ H', Nx H' → ∃ m', m' < m ∧ W (i + 1) m' H') ∧ ∀ x H', J.yld i H x H' → g x (wipe σ vs) H' fun σ2 H2 => wipe σ2 vs = wipe σ vs ∧ tt σ2 H2 fun b H3 =>
        if b = true then te σ2 H3 fun y H4 => ∃ acc, H4 D = some (.lst acc) ∧ acc.length < sizeLine ∧ Nx (upd H4 D (.lst (acc ++ [y]))) else Nx H3) := by
  refine lc_it w (fun i H => Same H1 H ∧ H D = some (.lst (acc i))) ⟨fun b o e => ?_, ?_⟩ (fun i H _ p => hG H p.1) ?_ (fun H p => hd H p.1 p.2)
  · rw [upd_ne (ne_of_none e hD)]
    exact e
  · rw [upd_same, h0]
  · rintro i x H H' hi ⟨s1, hl⟩ ⟨rfl, hx⟩
    refine hs i x _ hi hx s1 _ _ (fun y H4 e s2 => ⟨acc i, s2 _ _ hl, hz i hi, ⟨fun b o eb => ?_, by rw [upd_same, e]⟩⟩) (fun H3 e s2 => ⟨s1.trans s2, by rw [e]; exact s2 _ _ hl⟩)
    rw [upd_ne (ne_of_none eb hD)]
    exact s2 _ _ (s1 _ _ eb)
/-! ### texts and their bounds -/
theorem same_new {H : Hp} {q : Addr} {o : HO} (h : H q = none) : Same H (upd H q o) := fun b u e => by
  rw [upd_ne (ne_of_none e h)]
  exact e
/-- at most n signs, all of them signs -/
def sOk (n : Nat) (s : Str) : Prop := s.length ≤ n ∧ PyData.strOk s = true
theorem strOk_iff {s : Str} : PyData.strOk s = true ↔ ∀ c ∈ s.cps.toList, c < 0x110000 := by
  unfold PyData.strOk
  rw [Array.all_eq_true']
  constructor
  · intro h c hc
    exact of_decide_eq_true (h c (by simpa using hc))
  · intro h c hc
    exact decide_eq_true (h c (by simpa using hc))
theorem sOk.mono {n m : Nat} {s : Str} (h : sOk n s) (e : n ≤ m) : sOk m s := ⟨Nat.le_trans h.1 e, h.2⟩
theorem sOk.app {n m : Nat} {a b : Str} (h : sOk n a) (k : sOk m b) : sOk (n + m) (a ++ b) := by
  refine ⟨?_, strOk_iff.mpr fun c hc => ?_⟩
  · rw [Str.length_append]
    exact Nat.add_le_add h.1 k.1
  · rw [Str.cps_append, Array.toList_append] at hc
    rcases List.mem_append.mp hc with q | q
    · exact strOk_iff.mp h.2 c q
    · exact strOk_iff.mp k.2 c q
theorem sOk.cut {n : Nat} {a : Str} (h : sOk n a) (lo hi : Option Int) : sOk n (cutS a lo hi) := by
  refine ⟨Nat.le_trans (cutS_length _ _ _) h.1, strOk_iff.mpr fun c hc => ?_⟩
  unfold cutS at hc
  have hc' : c ∈ a.cps.toList := List.mem_of_mem_drop (List.mem_of_mem_take (by simpa using hc))
  exact strOk_iff.mp h.2 c hc'
theorem joinL_nil : ∀ ps : List (List Nat), TL.joinL [] ps = ps.flatten
  | [] => rfl
  | [p] => by simp [TL.joinL]
  | p :: q :: r => by
    have ih := joinL_nil (q :: r)
    simp only [TL.joinL, ih]
    simp
theorem flat_len : ∀ (ys : List Str) (n : Nat), (∀ y ∈ ys, y.length ≤ n) → ((ys.map TL.tl).flatten).length ≤ ys.length * n
  | [], _, _ => by simp
  | y :: r, n, h => by
    have ih := flat_len r n fun z hz => h z (List.mem_cons_of_mem _ hz)
    have h1 : y.length ≤ n := h y List.mem_cons_self
    have h2 : (TL.tl y).length = y.length := by simp [TL.tl, Str.length]
    simp only [List.map_cons, List.flatten_cons, List.length_append, List.length_cons, Nat.add_mul, Nat.one_mul]
    omega
theorem join_ok {ys : List Str} {n : Nat} (h : ∀ y ∈ ys, sOk n y) : sOk (ys.length * n) (Txt.join Str.empty ys) := by
  have e : TL.tl (Txt.join Str.empty ys) = (ys.map TL.tl).flatten := by
    rw [TL.join_eq, TL.tl_join]
    exact joinL_nil _
  refine ⟨?_, strOk_iff.mpr fun c hc => ?_⟩
  · have h1 : (Txt.join Str.empty ys).length = (TL.tl (Txt.join Str.empty ys)).length := by simp [TL.tl, Str.length]
    rw [h1, e]
    exact flat_len ys n fun y hy => (h y hy).1
  · have hc' : c ∈ TL.tl (Txt.join Str.empty ys) := hc
    rw [e] at hc'
    obtain ⟨l, hl, hcl⟩ := List.mem_flatten.mp hc'
    obtain ⟨y, hy, rfl⟩ := List.mem_map.mp hl
    exact strOk_iff.mp (h y hy).2 c hcl
theorem sum_le : ∀ (ys : List Str) (n : Nat), (∀ y ∈ ys, y.length ≤ n) → (ys.map (·.length)).sum ≤ ys.length * n
  | [], _, _ => by simp
  | y :: r, n, h => by
    have ih := sum_le r n fun z hz => h z (List.mem_cons_of_mem _ hz)
    have h1 : y.length ≤ n := h y List.mem_cons_self
    simp only [List.map_cons, List.sum_cons, List.length_cons, Nat.add_mul, Nat.one_mul]
    omega
/-- an item at an open place within -/
theorem atI_in {α : Type} {xs : List α} {z : Int} (h0 : 0 ≤ z) (h1 : z < xs.length) : ∃ v, atI xs z = some v ∧ v ∈ xs := by
  obtain ⟨j, rfl⟩ := Int.eq_ofNat_of_zero_le h0
  have hj : j < xs.length := by omega
  exact ⟨xs[j], atI_nat (List.getElem?_eq_getElem hj), List.getElem_mem hj⟩
theorem op_mul_str {X : Cx} : OpR X (binaryOp .Mult) (fun x y H Q => ∃ z n, x = .str z ∧ y = .int n ∧ MulOk z n ∧ Q (.str (Txt.mul z n)) H) := by
  intro pins s σ H x y v u Q I rx ry h
  obtain ⟨z, n, rfl, rfl, hz, q⟩ := h
  obtain ⟨t, rfl⟩ := rx
  obtain ⟨t', rfl⟩ := ry
  exact SB.mul hz fun t' tk => ⟨.str (Txt.mul z n), H, I.tok _, ⟨_, rfl⟩, q⟩
theorem BoxIn.low {H0 H1 H : Hp} {p : Addr} {n : Nat} (b : BoxIn H1 H p n) (s : Same H0 H1) : BoxIn H0 H p n := ⟨s.trans b.same, s.free b.free, b.box⟩
theorem BoxIn.mut {H0 H : Hp} {p D : Addr} {n : Nat} {o : HO} (b : BoxIn H0 H p n) (h1 : D ≠ p) (h2 : H0 D = none) : BoxIn H0 (upd H D o) p n := by
  obtain ⟨d, s', c, h, hh⟩ := b.box
  refine ⟨fun x u e => ?_, b.free, d, s', c, by rw [upd_ne h1.symm]; exact h, hh⟩
  rw [upd_ne (ne_of_none e h2)]
  exact b.same _ _ e
/-- what a def draws: Good of the value, with what is known then -/
def sp_draw (c : Nat) (Good : Hp → V → Prop) : Sp := fun vs H Q _ => ∃ (H0 : Hp) (p : Addr) (n : Nat), vs = [.ref p] ∧ BoxIn H0 H p n ∧ n + c < 1000000 ∧ ∀ (H1 H' : Hp) (v : V), Same H0 H1 → BoxIn H1 H' p (n + c) → Good H1 v → Q v H'
/-! ### the mirror -/
def intO (o : Option PyData) : Bool := isT "int" o && !isT "bool" o
def limO (o : Option PyData) : Bool := nonO o || intO o
def okSign (c : Nat) : Bool := !decide (([c] : List Nat) < [97]) && !decide (([122] : List Nat) < [c])
def nameS (s : Str) : Bool := !(s == ("table" : Str)) && (decide ((1 : Int) ≤ s.length) && (decide ((s.length : Int) ≤ 8) && s.cps.toList.all okSign))
def nameO : Option PyData → Bool
  | some (.str s) => nameS s
  | _ => false
def ltO : PyData → PyData → Bool
  | .int i, .int j => decide (i < j)
  | _, _ => true
def spanO : Option PyData → Bool
  | some (.tuple [l, h]) => limO (some l) && (limO (some h) && ltO l h)
  | _ => false
theorem spanO_no {ds : List PyData} (h : ds.length ≠ 2) : spanO (some (.tuple ds)) = false := by
  match ds, h with
  | [], _ => rfl
  | [_], _ => rfl
  | [_, _], hl => exact absurd rfl hl
  | _ :: _ :: _ :: _, _ => rfl
theorem dp_two {K : PySem.W.Frag} {H : Hp} {xs : List V} {ds : List PyData} (h : DpAll K H xs ds) (e : xs.length = 2) : ∃ x y d e, xs = [x, y] ∧ ds = [d, e] ∧ Dp K H x d ∧ Dp K H y e := by
  match xs, ds, h, e with
  | [x, y], [d, e], .cons h1 (.cons h2 .nil), _ => exact ⟨x, y, d, e, rfl, rfl, h1, h2⟩
theorem spanO_ty {o : Option PyData} (e : isT "tuple" o = false) : spanO o = false := by
  rcases o with _ | d
  · rfl
  · cases d with
    | tuple s => cases e
    | _ => rfl
theorem nameO_no {o : Option PyData} (e : isT "str" o = false) : nameO o = false := by
  rcases o with _ | d
  · rfl
  · cases d with
    | str s => cases e
    | _ => rfl
theorem VD.str_of {K : PySem.W.Frag} {H : Hp} {v : V} {o : Option PyData} (hv : VD K H v o) (e : isT "str" o = true) : ∃ s, v = .str s ∧ o = some (.str s) ∧ s.length ≤ 1000 ∧ PyData.strOk s = true := by
  cases hv with
  | dat a b c =>
    cases a with
    | str s =>
      have := (shaped_iff.mp b).1
      simp only [PyData.canLay0] at this
      exact ⟨s, rfl, rfl, c s rfl, this⟩
    | _ => cases e
  | dic a => cases e
theorem VD.tup_of {K : PySem.W.Frag} {H : Hp} {v : V} {o : Option PyData} (hv : VD K H v o) (e : isT "tuple" o = true) : ∃ a xs ds, v = .ref a ∧ o = some (.tuple ds) ∧ SqT K H a xs ∧ DpAll K H xs ds ∧ SeqAt.shaped (.tuple ds) = true := by
  cases hv with
  | dat a b c =>
    cases a with
    | tup h1 h2 => exact ⟨_, _, _, rfl, rfl, h1, h2, b⟩
    | _ => cases e
  | dic a => cases e
theorem strOk_mem {s : Str} (h : PyData.strOk s = true) {c : Nat} (hc : c ∈ s.cps.toList) : c < 0x110000 := by
  unfold PyData.strOk at h
  rw [Array.all_eq_true'] at h
  exact of_decide_eq_true (h c (by simpa using hc))
theorem strOk_sign {c : Nat} (h : c < 0x110000) : PyData.strOk ⟨#[c]⟩ = true := by
  unfold PyData.strOk
  simp
  omega
/-- the values that are no limits -/
def filt : List V → List PyData → List V
  | x :: xs, d :: ds => if limO (some d) = true then filt xs ds else x :: filt xs ds
  | _, _ => []
theorem filt_len : ∀ (xs : List V) (ds : List PyData), (filt xs ds).length ≤ xs.length
  | [], _ => by simp [filt]
  | _ :: _, [] => by simp [filt]
  | x :: xs, d :: ds => by
    have ih := filt_len xs ds
    simp only [filt]
    split
    · simp only [List.length_cons]
      omega
    · simp only [List.length_cons]
      omega
theorem filt_step : ∀ {xs : List V} {ds : List PyData} {i : Nat} {x : V} {d : PyData}, xs[i]? = some x → ds[i]? = some d → filt (xs.take (i + 1)) (ds.take (i + 1)) = if limO (some d) = true then filt (xs.take i) (ds.take i) else filt (xs.take i) (ds.take i) ++ [x]
  | [], _, _, _, _, h, _ => by simp at h
  | _ :: _, [], _, _, _, _, h => by simp at h
  | y :: ys, e :: es, 0, x, d, h1, h2 => by
    cases h1
    cases h2
    simp [filt]
  | y :: ys, e :: es, i + 1, x, d, h1, h2 => by
    have ih := filt_step (xs := ys) (ds := es) (i := i) (x := x) (d := d) (by simpa using h1) (by simpa using h2)
    simp only [List.take_succ_cons, filt, ih]
    split <;> split <;> simp
theorem filt_dp {K : PySem.W.Frag} {H : Hp} : ∀ {xs : List V} {ds : List PyData}, DpAll K H xs ds → DpAll K H (filt xs ds) (ds.filter fun d => !limO (some d))
  | _, _, .nil => by simp [filt]; exact .nil
  | _, _, .cons (v := v) (d := d) a b => by
    have ih := filt_dp b
    simp only [filt]
    cases h : limO (some d) with
    | true =>
      simp [h]
      exact ih
    | false =>
      simp [h]
      exact .cons a ih
theorem okSign_is (c : Nat) : okSign c = decide (c ∈ ("abcdefghijklmnopqrstuvwxyz" : Str).cps.toList) := by
  have e : ("abcdefghijklmnopqrstuvwxyz" : Str).cps.toList = [97, 98, 99, 100, 101, 102, 103, 104, 105, 106, 107, 108, 109, 110, 111, 112, 113, 114, 115, 116, 117, 118, 119, 120, 121, 122] := by decide +kernel
  rw [e]
  unfold okSign
  rw [Bool.eq_iff_iff, Bool.and_eq_true, decide_eq_true_iff, Bool.not_eq_true', Bool.not_eq_true', decide_eq_false_iff_not, decide_eq_false_iff_not]
  simp only [List.cons_lt_cons_iff, List.not_lt_nil, and_false, or_false, List.mem_cons, List.not_mem_nil]
  omega
def sp_v1 (K : PySem.W.Frag) (f : Option PyData → Bool) : Sp := fun vs H Q _ => ∃ (v : V) (o : Option PyData), vs = [v] ∧ VD K H v o ∧ ∀ H', Same H H' → Q (.bl (f o)) H'
/-- the same without a word on the heap: nothing is made -/
def sp_v0 (K : PySem.W.Frag) (f : Option PyData → Bool) : Sp := fun vs H Q _ => ∃ (v : V) (d : PyData), vs = [v] ∧ Dp K H v d ∧ Q (.bl (f (some d))) H
def sp_vO (K : PySem.W.Frag) (f : Option PyData → Bool) : Sp := fun vs H Q _ => ∃ (v : V) (o : Option PyData), vs = [v] ∧ TyX K H v (.type (tyO o)) ∧ decide (v = .non) = nonO o ∧ Q (.bl (f o)) H
theorem dp_vO {K : PySem.W.Frag} {H : Hp} {v : V} {d : PyData} (h : Dp K H v d) : TyX K H v (.type (tyO (some d))) ∧ decide (v = .non) = nonO (some d) := by
  refine ⟨dp_ty h, ?_⟩
  cases h <;> rfl
theorem vd_vO {K : PySem.W.Frag} {H : Hp} {v : V} {o : Option PyData} (h : VD K H v o) : TyX K H v (.type (tyO o)) ∧ decide (v = .non) = nonO o := ⟨h.ty, vd_non h⟩
/-! ### what is raised -/
/-- an exception of the class at C leaves, with v as its field f -/
def Rz (H : Hp) (E : XK) (C : Addr) (f : Str) (v : V) : Prop := ∀ (d : Addr) (H' : Hp), H d = none → H' d = some (.xd [(f, v)]) → Same H H' → E (.ref C) (some d) H'
theorem Rz.back {H H1 : Hp} {E : XK} {C : Addr} {f : Str} {v : V} (s : Same H H1) (h : Rz H E C f v) : Rz H1 E C f v := fun d H' n x k => h d H' (s.free n) x (s.trans k)
/-- X.__init__: the one field -/
def sp_xinit (K : PySem.W.Frag) (C : Addr) (f : Str) : Sp := fun vs H Q _ => ∃ (a : Addr) (v : V), vs = [.ref a, v] ∧ OexC K C ∧ PySem.W.findIn K (.ref C) f = some none ∧ H a = some (exo a C none) ∧ ∀ dx, H dx = none → dx ≠ a → Q .non (upd (upd H dx (exd dx [(f, v)])) a (exo a C (some dx)))
/-- the reading of «raise X(v)» -/
theorem raise_x {K : PySem.W.Frag} {H : Hp} {E : XK} {C : Addr} {f : Str} {v : V} (x : OexC K C) (n : PySem.W.findIn K (.ref C) f = some none) (h : Rz H E C f v) : ([v] : List V).length ≤ 1000 ∧ ∀ a, H a = none → sp_xinit K C f (.ref a :: ([v] ++ [])) (upd H a (exo a C none))
    (fun v' H2 => v' = .non ∧ ∃ (d : Addr) (fs : List (Str × V)), H2 a = some (exo a C (some d)) ∧ H2 d = some (exd d fs) ∧ H d = none ∧ E (.ref C) (some d) (upd (del H2 a) d (.xd fs))) (fun _ _ _ => False) := by
  refine ⟨by show 1 ≤ 1000; decide, fun a ha => ⟨a, v, rfl, x, n, upd_same, fun dx hdx ne => ⟨rfl, dx, [(f, v)], upd_same, by rw [upd_ne ne, upd_same], ?_, ?_⟩⟩⟩
  · rw [upd_ne ne] at hdx
    exact hdx
  · rw [upd_ne ne] at hdx
    refine h dx _ hdx upd_same fun b o e => ?_
    have nb : b ≠ a := ne_of_none e ha
    have nd : b ≠ dx := ne_of_none e hdx
    rw [upd_ne nd, del_ne nb, upd_ne nb, upd_ne nd, upd_ne nb]
    exact e
/-! ### x in t, t a tuple, data of any depth -/
section
variable {X : Cx}
def rInT (K : PySem.W.Frag) : R2 := fun x y H Q => ∃ d ds, Dp K H x d ∧ Dp K H y (.tuple ds) ∧ SeqAt.shaped d = true ∧ SeqAt.shaped (.tuple ds) = true ∧ Q (.bl (ds.any fun z => PyData.eqv z d)) H
theorem op_inT (hu : X.A.units + 65 < cLine) : OpR X (compareOp .In) (rInT X.K) := by
  intro pins s σ H x y v u Q I rx ry h
  obtain ⟨d, ds, hd, he, sd, se, q⟩ := h
  obtain ⟨as, r1⟩ := Dp.reads I d x v hd rx
  obtain ⟨bs, r2⟩ := Dp.reads I (.tuple ds) y u he ry
  exact SeqAt.in_tuple_reads r2 r1 (SeqAt.canLay_of_shaped se) (SeqAt.canLay_of_shaped sd) (PyProof.Rows.room_in_shaped sd hu) ⟨.bl _, H, I, rfl, q⟩
end
/-! ### what stands written at the top: tuples of texts, dicts of such -/
def seqK (K : PySem.W.Frag) (a : Addr) : Option (List Value) := match K.lookup a with
  | some ⟨.type c, _, .seq its _, _⟩ => if (c == "tuple" && decide (its.size ≤ 1000)) = true then some its.toList else none
  | _ => none
def mapO {α β : Type} (f : α → Option β) : List α → Option (List β)
  | [] => some []
  | x :: r => (f x).bind fun y => (mapO f r).bind fun ys => some (y :: ys)
def datK (K : PySem.W.Frag) : Nat → Value → Option PyData
  | n, .str x _ => some (.str x)
  | n + 1, .ref a => (seqK K a).bind fun us => (mapO (datK K n) us).bind fun ds => some (.tuple ds)
  | _, _ => none
def nsD (K : PySem.W.Frag) (a : Addr) (x : Str) : Option PyData := match PySem.W.nsIn K a x with
  | some (some u) => datK K 4 u
  | _ => none
theorem seqK_ok {K : PySem.W.Frag} {a : Addr} {us : List Value} {xs : List V} (h : seqK K a = some us) (r : Vals xs us) (H : Hp) : SqT K H a xs := by
  unfold seqK at h
  split at h
  · rename_i c dd its n sl q
    split at h
    · rename_i z
      rw [Bool.and_eq_true] at z
      have e1 : c = "tuple" := of_decide_eq_true (by simpa using z.1)
      have e2 := of_decide_eq_true z.2
      have e3 : its.toList = us := Option.some.inj h
      subst e1 e3
      exact .inr ⟨_, its, n, q, rfl, rfl, Nat.le_trans e2 (by decide), r⟩
    · cases h
  · cases h
mutual
theorem datK_ok {K : PySem.W.Frag} : ∀ (n : Nat) {u : Value} {d : PyData}, datK K n u = some d → ∃ v, RelV v u ∧ ∀ H, Dp K H v d
  | 0, .str x t, d, h => by
    have e : PyData.str x = d := Option.some.inj (by simpa [datK] using h)
    subst e
    exact ⟨.str x, ⟨t, rfl⟩, fun H => .str x⟩
  | n + 1, .str x t, d, h => by
    have e : PyData.str x = d := Option.some.inj (by simpa [datK] using h)
    subst e
    exact ⟨.str x, ⟨t, rfl⟩, fun H => .str x⟩
  | n + 1, .ref a, d, h => by
    have h' : ((seqK K a).bind fun us => (mapO (datK K n) us).bind fun ds => some (.tuple ds)) = some d := by simpa [datK] using h
    cases e1 : seqK K a with
    | none => rw [e1] at h'; cases h'
    | some us =>
      rw [e1, Option.bind_some] at h'
      cases e2 : mapO (datK K n) us with
      | none => rw [e2] at h'; cases h'
      | some ds =>
        rw [e2, Option.bind_some] at h'
        have e3 : PyData.tuple ds = d := Option.some.inj h'
        subst e3
        obtain ⟨vs, r, q⟩ := datsK_ok n us e2
        exact ⟨.ref a, rfl, fun H => .tup (seqK_ok e1 r H) (q H)⟩
theorem datsK_ok {K : PySem.W.Frag} : ∀ (n : Nat) (us : List Value) {ds : List PyData}, mapO (datK K n) us = some ds → ∃ vs, Vals vs us ∧ ∀ H, DpAll K H vs ds
  | n, [], ds, h => by
    have e : [] = ds := Option.some.inj h
    subst e
    exact ⟨[], .nil, fun H => .nil⟩
  | n, u :: r, ds, h => by
    have h' : ((datK K n u).bind fun y => (mapO (datK K n) r).bind fun ys => some (y :: ys)) = some ds := h
    cases e1 : datK K n u with
    | none => rw [e1] at h'; cases h'
    | some d =>
      rw [e1, Option.bind_some] at h'
      cases e2 : mapO (datK K n) r with
      | none => rw [e2] at h'; cases h'
      | some es =>
        rw [e2, Option.bind_some] at h'
        have e3 : d :: es = ds := Option.some.inj h'
        subst e3
        obtain ⟨v, rv, qv⟩ := datK_ok n e1
        obtain ⟨vs, rvs, qvs⟩ := datsK_ok n r e2
        exact ⟨v :: vs, .cons rv rvs, fun H => .cons (qv H) (qvs H)⟩
end
/-- an item of a dict of the top -/
theorem nsD_ok {K : PySem.W.Frag} {w : World} {a : Addr} {tb : List (Str × PyData)} (l : ∃ es n, K.lookup a = some ⟨.type "dict", none, .dict es n, #[]⟩ ∧ PySem.W.KeysLit w.params es.toList) (h : tb.map (fun p => nsD K a p.1) = tb.map fun p => some p.2)
    {x : Str} {d : PyData} (m : (x, d) ∈ tb) : ∃ v, KDct K w a x v ∧ ∀ H, Dp K H v d := by
  have e : nsD K a x = some d := by
    have : ∀ {l : List (Str × PyData)}, l.map (fun p => nsD K a p.1) = l.map (fun p => some p.2) → (x, d) ∈ l → nsD K a x = some d := by
      intro l
      induction l with
      | nil => intro _ m; cases m
      | cons p r ih =>
        intro hl m
        rw [List.map_cons, List.map_cons] at hl
        injection hl with h1 h2
        rcases List.mem_cons.mp m with q | q
        · subst q; exact h1
        · exact ih h2 q
    exact this h m
  obtain ⟨es, n, hl, hk⟩ := l
  unfold nsD at e
  split at e
  · rename_i u q
    obtain ⟨v, rv, qv⟩ := datK_ok 4 e
    exact ⟨v, ⟨es, n, u, hl, hk, q, rv⟩, qv⟩
  · cases e
theorem relref {v : V} {a : Addr} (h : RelV v (.ref a)) : v = .ref a := by
  cases v with
  | ref b => cases h; rfl
  | _ => first | cases h; done | exact (by obtain ⟨_, h⟩ := h; exact absurd h (by simp))
theorem u65 {A : Around} {k : Nat} (hr : Room k A) : A.units + 65 < cLine := by
  have := hr.un
  omega
theorem dp_three {K : PySem.W.Frag} {H : Hp} {xs : List V} {ds : List PyData} (h : DpAll K H xs ds) (e : xs.length = 3) : ∃ x y z d e f, xs = [x, y, z] ∧ ds = [d, e, f] ∧ Dp K H x d ∧ Dp K H y e ∧ Dp K H z f := by
  match xs, ds, h, e with
  | [x, y, z], [d, e, f], .cons h1 (.cons h2 (.cons h3 .nil)), _ => exact ⟨x, y, z, d, e, f, rfl, rfl, h1, h2, h3⟩
/-! ### names drawn -/
/-- the items of l, in another order -/
def sp_mixed : Sp := fun vs H Q _ => ∃ (H0 : Hp) (p l : Addr) (n : Nat) (xs : List V), vs = [.ref p, .ref l] ∧ BoxIn H0 H p n ∧ H l = some (.lst xs) ∧ xs.length ≤ 100 ∧ n + xs.length < 1000000 ∧
  ∀ (q : Addr) (H' : Hp) (ys : List V), Same H0 H' → H0 q = none → q ≠ p → H' q = some (.lst ys) → ys.Perm xs → BoxIn H0 H' p (n + xs.length) → Q (.ref q) H'
/-- m names -/
def sp_names : Sp := fun vs H Q _ => ∃ (H0 : Hp) (p : Addr) (n m : Nat), vs = [.ref p, .int m] ∧ BoxIn H0 H p n ∧ m ≤ 13 ∧ n + 40 < 1000000 ∧
  ∀ (q : Addr) (H' : Hp) (ss : List Str), Same H0 H' → H0 q = none → q ≠ p → H' q = some (.lst (ss.map V.str)) → ss.length = m → (∀ s ∈ ss, sOk 16 s) → BoxIn H0 H' p (n + 40) → Q (.ref q) H'
theorem strs_of {W : List Str} : ∀ {xs : List V}, (∀ y ∈ xs, ∃ s, s ∈ W ∧ y = V.str s) → ∃ ss : List Str, xs = ss.map V.str ∧ ∀ s ∈ ss, s ∈ W
  | [], _ => ⟨[], rfl, fun s h => by cases h⟩
  | x :: r, h => by
    obtain ⟨s, hs, rfl⟩ := h x List.mem_cons_self
    obtain ⟨ss, rfl, h2⟩ := strs_of (xs := r) fun y hy => h y (List.mem_cons_of_mem _ hy)
    refine ⟨s :: ss, rfl, fun y hy => ?_⟩
    rcases List.mem_cons.mp hy with rfl | q
    · exact hs
    · exact h2 y q
/- wants the import KE.KUnpackStar; `a, *b = t` for tuples: target (pg_tupS hc (pgs_cons .. (pgs_star .. pgs_nil))), term gTupS K n i (gCons .. (gCons .. gNil)) -/
section
open PySem.Spec PySem.Calls PyProof.Rows
/-! ### a, *b = a tuple -/
section
variable {X : Cx} {pos : Pos}
/-- n targets, the starred one behind i others: what lies between becomes a new list -/
def gTupS (K : PySem.W.Frag) (n i : Nat) (t : TGs) : TG := fun v σ H Q => ∃ a xs, v = .ref a ∧ SqT K H a xs ∧ n ≤ xs.length + 1 ∧
  ∀ q, H q = none → t (xs.take i ++ [.ref q] ++ (xs.drop i).drop (xs.length + 1 - n)) σ (upd H q (.lst ((xs.drop i).take (xs.length + 1 - n)))) Q
/-- the starred one among the targets -/
theorem pgs_star {tgt : Expr} {sp : Pos} {more : List Expr} {g : TG} {gs : TGs} (one : PG X tgt g) (rest : PGs X more gs)
    (two : (assignEach (.Starred tgt sp :: more) X.env).map Prod.snd = assign tgt X.env :: (assignEach more X.env).map Prod.snd := by rfl) :
    PGs X (.Starred tgt sp :: more) (gCons g gs) where
  run := fun pins s σ H vs us Q I => fun
    | .cons r rr, ⟨_, _, e, q⟩ => by
      injection e with e1 e2
      subst e1 e2
      have start := one.run pins s σ H _ _ _ I r q
      show wpAny _ _ (assignInOrder ((assignEach (.Starred tgt sp :: more) X.env).map Prod.snd) _) _ _ _
      rw [two]
      exact PyProof.Rows.assignInOrder_cons (thn start fun _ s1 ⟨σ1, H1, I1, q1⟩ => rest.run pins s1 σ1 H1 _ _ Q I1 rr q1)
    | .nil, ⟨_, _, e, _⟩ => nomatch e
/-- what unpacking hands out, by a tuple's iterator that has gone i steps -/
theorem star_items {A : Around} {E : Value → Shared → Prop} {P : Program} {w : World} {s : Shared} {t : Addr} {its : List Value} {n i : Nat} {R : List Value → Shared → Prop}
    (calm : A.handled = none) (ht : IsTup s.heap t its.toArray) (hi : i < n) (hn : n ≤ its.length + 1) (hz : its.length ≤ sizeLine)
    (out : ∀ (g : Heap) (tk : Nat), (∀ b u, s.heap.get? b = some u → g.get? b = some u) →
      R (its.take i ++ [.ref g.objs.size] ++ (its.drop i).drop (its.length + 1 - n)) { s with heap := g.push { cls := .type "list", data := .seq ((its.drop i).take (its.length + 1 - n)).toArray }, toks := tk }) :
    wpAny (model P w) A (unpackItems (.ref t) n (some i)) R E s := by
  have far : t ≠ s.heap.objs.size := by
    obtain ⟨_, e, _⟩ := ht
    exact Nat.ne_of_lt (Heap.lt_size e)
  have big : its.toArray.size = its.length := List.size_toArray
  have back : its.toArray.toList = its := rfl
  have head : (its.take i).length = i := by
    rw [List.length_take]
    omega
  have tail : (its.drop i).length = its.length - i := List.length_drop
  have amid : its.length - i - (n - 1 - i) = its.length + 1 - n := by omega
  unfold unpackItems notIterableAtAll
  refine wpAny_bind (wpAny_bind (wpAny_specialOf ht.typeIs slot_tuple_iter.lookup (wpAny_pure ?_)))
  simp only [if_false, Bool.false_eq_true]
  refine wpAny_bind (wpAny_holding (iter_tuple ht (wpAny_bind (wpAny_holding (draw_tuple far i 0 _ _ ⟨_, Heap.get?_push_size _ rfl, rfl, rfl⟩ (ht.push _) (by omega) fun g1 at1 sb => ?_)))))
  have t1 : IsTup g1 t its.toArray := (ht.push _).extBut sb.extBut far
  rw [Nat.zero_add] at at1
  rw [List.drop_zero, back, if_neg (by omega)]
  have here1 : ∃ u, g1.get? s.heap.objs.size = some u := at1.imp fun _ e => e.1
  have here2 : ∃ u, g1.get? t = some u := t1.imp fun _ e => e.1
  obtain ⟨_, e1⟩ := here1
  obtain ⟨_, e2⟩ := here2
  have walk := Walks.tuple (prog := P) (w := w) (A := A.in1) calm s.heap.objs.size t far its.toArray
  refine wpAny_bind (wpAny_holding (PySem.W.kun_collect (s := { s with heap := g1 }) (T := "tuple_iterator") (.inr (.inr (.inr rfl))) walk (fun _ _ z => z.1.typeIs) (by omega) ⟨at1, t1⟩ (Heap.lt_size e1) (Heap.lt_size e2) (fun g tk keep => ?_) (by omega)))
  rw [back]
  show wpAny _ _ (if (its.drop i).length < n - 1 - i then _ else _) _ _ _
  rw [if_neg (by omega), tail, amid]
  have kept : ∀ b u, s.heap.get? b = some u → g.get? b = some u := fun b u e => keep b u (Nat.ne_of_lt (Heap.lt_size e)) (sb.extBut b u (Nat.ne_of_lt (Heap.lt_size e)) (Heap.get?_push_of_some _ e))
  exact wpAny_bind (wpAny_newList (wpAny_pure (out g tk kept)) (by rw [List.length_take]; omega))
/-- a, *b = a tuple -/
theorem pg_tupS {tgts : List Expr} {k : Nat} {gs : TGs} {n i : Nat} (hc : X.calm = true) (each : PGs X tgts gs)
    (many : (assignEach tgts X.env).length = n := by rfl) (star : (assignEach tgts X.env).findIdx? (·.1) = some i := by rfl) (hi : i < n := by decide) :
    PG X (.Tuple tgts k pos) (gTupS X.K n i gs) where
  run := fun pins s σ H v u Q I r => fun ⟨a, xs, e, sq, room, go⟩ => by
    subst e
    cases r
    obtain ⟨its, rv, ht, hz⟩ := I.tuple sq
    have same : xs.length = its.length := rv.length
    rw [assign_Tuple]
    refine wpAny_bind (wpAny_standAt (?_))
    unfold unpack
    rw [many, star]
    refine wpAny_bind (wpAny_holding (star_items (I.ok.hd hc) ht hi (by omega) (by omega) fun g tk kept => ?_))
    rw [← same]
    have J : Inv X pins σ H { s with heap := g, toks := tk } := I.kept kept
    have mid : Vals ((xs.drop i).take (xs.length + 1 - n)) ((its.drop i).take (xs.length + 1 - n)) := (rv.drop i).take _
    have short : ((xs.drop i).take (xs.length + 1 - n)).length ≤ sizeLine := by
      rw [List.length_take]
      rw [List.length_drop]
      omega
    have new := J.laid (t' := tk) (o := .lst ((xs.drop i).take (xs.length + 1 - n))) (fun b u e => Heap.get?_push_of_some _ e) (Nat.le_refl _) ⟨short, _, 0, mid, Heap.get?_push_size _ rfl⟩
    have ref : RelV (.ref g.objs.size) (.ref g.objs.size) := rfl
    exact each.run pins _ σ _ _ _ Q new (((rv.take i).append (.cons ref .nil)).append ((rv.drop i).drop _)) (go _ (J.hok.fresh (Nat.le_refl _)))
end
end
/- len(set(xs)) for a list of texts: `pe_lenSetT hc gl nl gs ns arg`, term tLenSetT K ta; wants the import HandS.Strs (all of it: 65 s of Lean, nearly all of it set_texts) -/
section
open PySem.Spec PySem.Calls PyProof.Rows
variable {P : Program} {w : World}
/-- k is among the first i texts -/
def met (xs : List Str) (i : Nat) (k : Str) : Bool := (xs.take i).any (· == k)
/-- how many different texts are among the first i -/
def metN (xs : List Str) (i : Nat) : Nat := ((List.range i).filter fun j => !met xs j (xs.getD j Str.empty)).length
theorem metN_le (xs : List Str) (i : Nat) : metN xs i ≤ i := Nat.le_trans (List.length_filter_le _ _) (by rw [List.length_range]; exact Nat.le_refl _)
theorem metN_step (xs : List Str) (i : Nat) : metN xs (i + 1) = if met xs i (xs.getD i Str.empty) = true then metN xs i else metN xs i + 1 := by
  unfold metN
  have e : ([i].filter fun j => !met xs j (xs.getD j Str.empty)) = if met xs i (xs.getD i Str.empty) = true then [] else [i] := by
    rw [List.filter_cons]
    cases met xs i (xs.getD i Str.empty) <;> rfl
  rw [List.range_succ, List.filter_append, List.length_append, e]
  split <;> rfl
theorem met_step {xs : List Str} {i : Nat} (h : i < xs.length) (k : Str) : (met xs i k || decide (k = xs.getD i Str.empty)) = met xs (i + 1) k := by
  unfold met
  have e : xs[i]? = some xs[i] := List.getElem?_eq_getElem h
  rw [List.take_add_one, e, List.any_append, List.getD_eq_getElem?_getD, e]
  congr 1
  rw [Bool.eq_iff_iff, decide_eq_true_iff]
  simp only [Option.getD_some, Option.toList_some, List.any_cons, List.any_nil, Bool.or_false, beq_iff_eq]
  exact ⟨fun q => q.symm, fun q => q.symm⟩
theorem setOf_kept {T : Type} [DecidableEq T] {knd : PySem.KeyKind P w T} {g g' : Heap} {S : Addr} {f : T → Bool} {c : Nat} (h : g.SetOf knd S f c) (k : ∀ o, g.get? S = some o → g'.get? S = some o) : g'.SetOf knd S f c := by
  obtain ⟨o, es, ep, tb, ho, more⟩ := h
  exact ⟨o, es, ep, tb, k o ho, more⟩
theorem set_loop {A : Around} {R : Result → Shared → Prop} {I : Addr} {fp wr : List Addr} {G : Array GenState → Array GenState → Prop} {n : Nat} {Pv : Nat → Value → Prop} {St : Nat → Shared → Prop}
    (W : WalksS P w A.in1 I fp wr G n Pv St) {S : Addr} (out : S ∉ fp) {xs : List Str} (len : xs.length = n) (few : n < scanBound) (val : ∀ i v, Pv i v → ∃ t, v = .str (xs.getD i Str.empty) t)
    (left : Nat) : ∀ (i : Nat) (s : Shared), i + left = n → St i s → s.heap.SetOf (PySem.strKind P w) S (met xs i) (metN xs i) →
      (∀ s', Moved (S :: wr) G s s' → s'.heap.SetOf (PySem.strKind P w) S (met xs n) (metN xs n) → R (.ok (.ret .none)) s') → codeAny (model P w) A (.builtin "set.update.loop" ⟨[.ref S, .ref I], []⟩) R s := by
  have apart : S ∉ wr := fun q => out (W.sub _ q)
  have more : ∀ b ∈ wr, b ∈ S :: wr := fun b q => List.mem_cons_of_mem S q
  induction left with
  | zero =>
    intro i s e st so fin
    have e : i = n := e
    rw [e] at st so
    refine codeAny_builtin (F.entry_set_update_loop) ?_
    rw [Around.under_plainId F.plain_set_update_loop]
    refine wpAny_bind (m := pyNext (.ref I)) (W.done s _ _ st fun s1 mv => ?_)
    exact wpAny_pure (fin s1 (mv.mono more) (setOf_kept so fun o q => mv.heap S o apart q))
  | succ m ih =>
    intro i s e st so fin
    have lt : i < n := by omega
    refine codeAny_builtin (F.entry_set_update_loop) ?_
    rw [Around.under_plainId F.plain_set_update_loop]
    refine wpAny_bind (m := pyNext (.ref I)) (W.item i s _ _ lt st fun v s1 pv st1 mv => ?_)
    obtain ⟨t, rfl⟩ := val i v pv
    have so1 := setOf_kept so fun o q => mv.heap S o apart q
    have bound : metN xs i < scanBound := Nat.lt_of_le_of_lt (metN_le xs i) (by omega)
    refine wpAny_bind (m := holding _ (setAdd S _)) (wpAny_holding ?_)
    unfold setAdd
    refine wpAny_holding (wpAny_bind ((PySem.strKind P w).pyHash (k := xs.getD i Str.empty) (strKind_is _ _ _ _) ?_))
    refine wpAny_setAddHashed_of (knd := PySem.strKind P w) (s := { s1 with toks := s1.toks + 1 }) (strKind_is _ _ _ _) rfl so1 (by have := metN_le xs i; omega) fun g only so2 => ?_
    have so3 : g.SetOf (PySem.strKind P w) S (met xs (i + 1)) (metN xs (i + 1)) := SetOf_congr so2 (fun k => met_step (by omega) k) (metN_step xs i).symm
    have calm : ∀ b ∈ fp, g.get? b = s1.heap.get? b := fun b q => only.2 b fun z => out (z ▸ q)
    refine wpAny_pure ⟨plainId_quiet F.plain_set_update_loop _, ih (i + 1) _ (by omega) (W.frame _ s1 _ _ st1 (Nat.le_succ _) fun b q o z => (calm b q).trans z) so3 fun s2 mv2 so4 => fin s2 ?_ so4⟩
    exact Moved.trans W.gtrans ((mv.mono more).then_heap (Nat.le_succ _) fun b o q z => (only.2 b fun y => q (y ▸ List.mem_cons_self)).trans z) mv2
/-- a set that has just been made -/
abbrev bare (led : Bool) : Obj := { cls := .type "set", dict := none, data := .set #[] 0 (.fresh 0 0 led) }
set_option maxHeartbeats 0 in
theorem set_texts {A : Around} {E : Value → Shared → Prop} {s : Shared} {l : Addr} {arr : Array Value} {xs : List Str} {Q : Value → Shared → Prop} (calm : A.handled = none) (il : s.heap.IsList l arr) (tx : StrsAre arr.toList xs) (few : xs.length < scanBound)
    (go : ∀ (g : Heap) (tk : Nat), g.SetOf (PySem.strKind P w) s.heap.objs.size (met xs xs.length) (metN xs xs.length) → (∀ b u, s.heap.get? b = some u → g.get? b = some u) → Q (.ref s.heap.objs.size) { s with heap := g, toks := tk }) :
    wpAny (model P w) A (call (.type "set") [Value.ref l]) Q E s := by
  have size : xs.length = arr.size := by rw [← StrsAre.len_eq tx, Array.length_toList]
  have item : ∀ (i : Nat) (v : Value), arr[i]? = some v → ∃ t, v = .str (xs.getD i Str.empty) t := fun i v e => SS.strs_at tx i v (by rw [Array.getElem?_toList, e])
  have facts := PySem.F.called_set
  obtain ⟨_, _, mro⟩ := facts.mro
  have made := facts.made
  have sub := facts.sub
  have notType := facts.notType
  have creates := facts.canCreate
  have called := PySem.F.typeCall_set_1 (.ref l)
  refine wpAny_call (codeAny_of_tree (wpAny_pure ⟨Code.quiet_builtin _ (by decide +kernel), codeAny_builtin PySem.F.entry_type_call ?_⟩))
  rw [Around.under_plain (weight_type_call_type _ [Value.ref l] []) rfl]
  repeat any_goals first | assumption | wp_step
  refine codeAny_mono (code_set_new_1 (.ref l) (E := E) (Q₁ := fun r u => ∃ led : Bool, r = .ref s.heap.objs.size ∧ u = { s with heap := s.heap.push (bare led) }) fun led => ⟨led, rfl, rfl⟩) fun r u end1 => ?_
  rcases r with _ | fl
  · exact end1
  cases fl
  case ret obj =>
    obtain ⟨led, rfl, rfl⟩ := end1
    have there : (s.heap.push (bare led)).get? s.heap.objs.size = some (bare led) := Heap.get?_push_size _ rfl
    have kind : Shared.TypeIs { s with heap := s.heap.push (bare led) } (.ref s.heap.objs.size) "set" := ⟨_, there, rfl⟩
    have looks := facts.init.lookup
    have binds := facts.init.bind (.ref s.heap.objs.size)
    repeat any_goals first | assumption | wp_step
    let Post : Value → Shared → Prop := fun r u => r = .none ∧ ∃ g tk, u = { s with heap := g, toks := tk } ∧ g.SetOf (PySem.strKind P w) s.heap.objs.size (met xs xs.length) (metN xs xs.length) ∧ ∀ b o, s.heap.get? b = some o → g.get? b = some o
    refine codeAny_mono (codeAny_call_builtin (R := wants Post E) facts.init.plain PySem.F.entry_set_init (check_set_init_1 kind ?_)) fun r2 u2 end2 => ?_
    · have il2 : (s.heap.push (bare led)).IsList l arr := il.push _
      have sl := PySem.F.sub_list_set
      have sf := PySem.F.sub_list_frozenset
      obtain ⟨ob, get, cls, many, dat⟩ := il
      obtain ⟨_, od, _, os⟩ := ob
      subst cls dat
      have get2 : (s.heap.push (bare led)).get? l = some { cls := .type "list", dict := od, data := .seq arr many, slots := os } := Heap.get?_push_of_some _ get
      have nodict : (Value.type "list" == Value.type "dict") = false := by decide
      have below : l < s.heap.objs.size := Heap.lt_size get
      have calm3 : A.in1.in1.in1.handled = none := by simp [calm]
      have top : (s.heap.push (bare led)).objs.size = s.heap.objs.size + 1 := Heap.size_push ..
      unfold Builtin.«set.__init__»
      unfold noKeywords Builtin.Frozenset.updateFrom
      generalize iter : pyIter = it
      wp_walk
      subst iter
      refine wpAny_pyIter_list il2 (wpAny_bind (wpAny_runValue ?_))
      have away : ∀ {b : Addr}, b < s.heap.objs.size → b ≠ s.heap.objs.size ∧ b ≠ (s.heap.push (bare led)).objs.size := fun q => ⟨Nat.ne_of_lt q, Nat.ne_of_lt (by rw [top]; exact Nat.lt_succ_of_lt q)⟩
      have new := (away below).2
      have out : s.heap.objs.size ∉ [(s.heap.push (bare led)).objs.size, l] := fun q => by
        rcases List.mem_cons.mp q with q | q
        · rw [top] at q
          exact Nat.succ_ne_self _ q.symm
        · exact (away below).1 (List.mem_singleton.mp q).symm
      have start := setObjOf_fresh (knd := PySem.strKind P w) led
      refine set_loop (Walks.list calm3 _ l new arr).toS out size (by omega) item arr.size 0 _ (Nat.zero_add _) ⟨⟨_, Heap.get?_push_size _ rfl, rfl, rfl⟩, il2.push _⟩ ?_ fun u3 mv so => ?_
      · exact SetOf_congr (start.setOf (Heap.get?_push_of_some _ there) (by unfold scanBound; omega)) (fun _ => rfl) rfl
      · obtain ⟨g, gens, drawn, tk, sys⟩ := u3
        obtain rfl : gens = s.gens := mv.gens
        obtain rfl : drawn = s.drawn := mv.drawn
        obtain rfl : sys = s.os := mv.os
        rw [← size] at so
        refine wpAny_pure (wpAny_pure ⟨rfl, g, tk, rfl, so, fun b o e => ?_⟩)
        have far := away (Heap.lt_size e)
        refine mv.heap b o (fun q => ?_) (Heap.get?_push_of_some _ (Heap.get?_push_of_some _ e))
        rcases List.mem_cons.mp q with q | q
        · exact far.1 q
        · exact far.2 (List.mem_singleton.mp q)
    · rcases r2 with _ | fl2
      · exact end2
      cases fl2
      case ret v =>
        obtain ⟨rfl, g, tk, rfl, so, kept⟩ := end2
        repeat any_goals first | assumption | wp_step
        exact go g tk so kept
      all_goals exact end2.elim
  all_goals exact end1.elim
end
section
open PySem.Spec PySem.Calls PyProof.Rows
variable {X : Cx}
/-- len(set(a list of texts)) -/
def tLenSetT (K : PySem.W.Frag) (ta : TE) : TE := fun σ H Q => ta σ H fun x H1 => ∃ (l : Addr) (xs : List Str), x = .ref l ∧ SqL K H1 l (xs.map V.str) ∧ xs.length < 1000 ∧ Q (.int (metN xs xs.length)) H1
theorem pe_lenSetT {a : Expr} {ta : TE} {p1 p2 p3 p4 : Pos} (hc : X.calm = true) (gl : Gl X "len") (nl : X.mg "len" = none) (gs : Gl X "set") (ns : X.mg "set" = none) (arg : PE X a ta)
    (plain : starEach [a] X.env = (false, eval a X.env) :: starEach [] X.env := by rfl) : PE X (.Call (.Name "len" p1) [.Call (.Name "set" p2) [a] [] p3] [] p4) (tLenSetT X.K ta) where
  run := fun pins s σ H Q I h => by
    refine Call_ (ld_blt I gl nl boot_len (callWith_builtin1 (args_cons ?_ rfl) rfl rfl))
    refine Call_ (ld_blt I gs ns boot_set (callWith_type1 (args_cons (thn (arg.run pins s σ H _ I h) ?_) plain) plain rfl))
    rintro v s1 ⟨_, H1, J, r, l, xs, rfl, sq, few, q⟩
    cases r
    obtain ⟨its, rv, pl, _⟩ := J.list sq
    refine args_nil (set_texts (J.ok.hd hc) pl.isList (by simpa using strsAre_of rv) (by unfold scanBound; omega) fun g tk so kept => args_nil ?_)
    obtain ⟨ob, es, ep, tb, get, ex, dat, _, _, _, fits, many⟩ := so
    have J2 : Inv X pins σ H1 { s1 with heap := g, toks := tk } := J.kept kept
    have le := metN_le xs xs.length
    refine call_len_set get ex dat fits (by rw [many]; omega) ⟨.int (metN xs xs.length), H1, J2.tok _, ⟨_, by rw [many]⟩, q⟩
end
/-! ### changes -/
def strOf : PyData → Str
  | .str s => s
  | _ => Str.empty
/-- names, all different -/
def diffN (ds : List PyData) : Bool := ds.all (fun d => nameO (some d)) && decide (metN (ds.map strOf) (ds.map strOf).length = ds.length)
/-- items of a list that may be looked at one by one -/
def Its (K : PySem.W.Frag) (H : Hp) (xs : List V) (ds : List PyData) : Prop := DpAll K H xs ds ∧ ds.length ≤ 100 ∧ ∀ d ∈ ds, SeqAt.shaped d = true ∧ ∀ s, d = .str s → s.length ≤ 1000
def sp_diff (K : PySem.W.Frag) : Sp := fun vs H Q _ => ∃ (l : Addr) (xs : List V) (ds : List PyData), vs = [.ref l] ∧ SqL K H l xs ∧ Its K H xs ds ∧ ∀ H', Same H H' → Q (.bl (diffN ds)) H'
theorem nameO_str {d : PyData} (h : nameO (some d) = true) : ∃ s, d = .str s := by
  cases d with
  | str s => exact ⟨s, rfl⟩
  | _ => cases h
theorem all_take {α : Type} (p : α → Bool) (xs : List α) : ((xs.map p).all id) = xs.all p := by
  rw [List.all_map]
  rfl
/-- items that all are names, as texts -/
theorem its_strs {K : PySem.W.Frag} {H : Hp} : ∀ {xs : List V} {ds : List PyData}, DpAll K H xs ds → ds.all (fun d => nameO (some d)) = true → xs = (ds.map strOf).map V.str
  | _, _, .nil, _ => rfl
  | _, _, .cons a b, h => by
    rw [List.all_cons] at h
    rw [Bool.and_eq_true] at h
    obtain ⟨s, rfl⟩ := nameO_str h.1
    cases a
    rw [its_strs b h.2]
    rfl
/-! ### rules that more than one law wants -/
def filtG (f : PyData → Bool) : List V → List PyData → List V
  | x :: xs, d :: ds => if f d = true then x :: filtG f xs ds else filtG f xs ds
  | _, _ => []
theorem filtG_len (f : PyData → Bool) : ∀ (xs : List V) (ds : List PyData), (filtG f xs ds).length ≤ xs.length
  | [], _ => by simp [filtG]
  | _ :: _, [] => by simp [filtG]
  | x :: xs, d :: ds => by
    have ih := filtG_len f xs ds
    simp only [filtG]
    split
    · simp only [List.length_cons]
      omega
    · simp only [List.length_cons]
      omega
theorem filtG_step {f : PyData → Bool} : ∀ {xs : List V} {ds : List PyData} {i : Nat} {x : V} {d : PyData}, xs[i]? = some x → ds[i]? = some d → filtG f (xs.take (i + 1)) (ds.take (i + 1)) = if f d = true then filtG f (xs.take i) (ds.take i) ++ [x] else filtG f (xs.take i) (ds.take i)
  | [], _, _, _, _, h, _ => by simp at h
  | _ :: _, [], _, _, _, _, h => by simp at h
  | y :: ys, e :: es, 0, x, d, h1, h2 => by
    cases h1
    cases h2
    simp [filtG]
  | y :: ys, e :: es, i + 1, x, d, h1, h2 => by
    have ih := filtG_step (f := f) (xs := ys) (ds := es) (i := i) (x := x) (d := d) (by simpa using h1) (by simpa using h2)
    simp only [List.take_succ_cons, filtG, ih]
    split <;> split <;> simp
theorem filtG_dp {K : PySem.W.Frag} {H : Hp} {f : PyData → Bool} : ∀ {xs : List V} {ds : List PyData}, DpAll K H xs ds → DpAll K H (filtG f xs ds) (ds.filter f)
  | _, _, .nil => by simp [filtG]; exact .nil
  | _, _, .cons (v := v) (d := d) a b => by
    have ih := filtG_dp (f := f) b
    simp only [filtG]
    cases h : f d with
    | true =>
      simp [h]
      exact .cons a ih
    | false =>
      simp [h]
      exact ih
theorem range_filter_step (c : Nat → Bool) (i : Nat) : (List.range (i + 1)).filter c = if c i = true then (List.range i).filter c ++ [i] else (List.range i).filter c := by
  rw [List.range_succ, List.filter_append]
  cases h : c i with
  | true => simp [h]
  | false => simp [h]
theorem dpAll_take {K : PySem.W.Frag} {H : Hp} : ∀ {xs : List V} {ds : List PyData} (n : Nat), DpAll K H xs ds → DpAll K H (xs.take n) (ds.take n)
  | _, _, 0, _ => .nil
  | _, _, _ + 1, .nil => .nil
  | _, _, n + 1, .cons a b => .cons a (dpAll_take n b)
theorem dpAll_drop {K : PySem.W.Frag} {H : Hp} : ∀ {xs : List V} {ds : List PyData} (n : Nat), DpAll K H xs ds → DpAll K H (xs.drop n) (ds.drop n)
  | _, _, 0, h => h
  | _, _, _ + 1, .nil => .nil
  | _, _, n + 1, .cons _ b => dpAll_drop n b
theorem dpAll_app {K : PySem.W.Frag} {H : Hp} : ∀ {xs ys : List V} {ds es : List PyData}, DpAll K H xs ds → DpAll K H ys es → DpAll K H (xs ++ ys) (ds ++ es)
  | _, _, _, _, .nil, h => h
  | _, _, _, _, .cons a b, h => .cons a (dpAll_app b h)
theorem cut_takeV (ys : List V) {i : Nat} (h : i ≤ ys.length) : cutV ys none (some (i : Int)) = ys.take i := by
  unfold cutV
  rw [HT.sIx_none, HT.sIx_nat, List.drop_zero, Nat.sub_zero, Nat.min_eq_left h]
theorem cut_dropV (ys : List V) {i : Nat} (h : i ≤ ys.length) : cutV ys (some (i : Int)) none = ys.drop i := by
  unfold cutV
  rw [HT.sIx_none, HT.sIx_nat, Nat.min_eq_left h]
  exact List.take_of_length_le (by rw [List.length_drop]; exact Nat.le_refl _)
/-- a datum of three deep at most, its texts short -/
theorem in_strs (k : Str) (ss : List Str) : inV (.str k) (ss.map V.str) = decide (k ∈ ss) := by
  unfold inV
  rw [Bool.eq_iff_iff, List.any_eq_true, decide_eq_true_iff]
  constructor
  · rintro ⟨z, hz, e⟩
    obtain ⟨t, ht, rfl⟩ := List.mem_map.mp hz
    have : (t == k) = true := e
    rw [← eq_of_beq this]
    exact ht
  · intro h
    exact ⟨_, List.mem_map.mpr ⟨k, h, rfl⟩, by show (k == k) = true; simp⟩
theorem flat_strs (ss : List Str) : (ss.map V.str).all flatV = true := by
  rw [List.all_eq_true]
  intro x hx
  obtain ⟨s, _, rfl⟩ := List.mem_map.mp hx
  rfl
theorem dpAll_ints {K : PySem.W.Frag} {H : Hp} : ∀ ns : List Int, DpAll K H (ns.map V.int) (ns.map PyData.int)
  | [] => .nil
  | n :: r => .cons (.int n) (dpAll_ints r)
theorem ints_shaped (ns : List Int) : SeqAt.shaped (.list (ns.map PyData.int)) = true := shaped_list (n := 0) (by decide) fun d hd => by
  obtain ⟨i, _, rfl⟩ := List.mem_map.mp hd
  exact ⟨rfl, by simp [PyData.depth]⟩
theorem sure2 {w : Str} {v : V} (h : sureV v = true) : ([.str w, v] : List V).all sureV = true := by
  show (sureV (.str w) && (sureV v && true)) = true
  rw [h]
  rfl
/-! base 2 -/
/-! ### changes and roles -/
def hangD : List PyData → Bool
  | [a, b] => nameO (some a) && spanO (some b)
  | _ => false
def takeD : List PyData → Bool
  | [a] => nameO (some a)
  | _ => false
def splitD : List PyData → Bool
  | [a, b, c, d] => intO (some b) && diffN [a, c, d]
  | _ => false
def joinD : List PyData → Bool
  | [a, b, c] => diffN [a, b, c]
  | _ => false
def isS (d : PyData) (s : Str) : Bool := PyData.eqv d (.str s)
def chD : List PyData → Bool
  | [] => false
  | k :: r => if isS k "hang" = true then hangD r else if isS k "take" = true then takeD r else if isS k "split" = true then splitD r else isS k "join" && joinD r
def chO : Option PyData → Bool
  | some (.tuple ds) => chD ds
  | _ => false
theorem chO_ty {o : Option PyData} (e : isT "tuple" o = false) : chO o = false := by
  rcases o with _ | d
  · rfl
  · cases d with
    | tuple s => cases e
    | _ => rfl
/-- a tuple of few items, its texts short -/
def fewO (o : Option PyData) : Prop := ∀ ds, o = some (.tuple ds) → ds.length ≤ 100 ∧ ∀ s, PyData.str s ∈ ds → s.length ≤ 1000
theorem its_of {K : PySem.W.Frag} {H : Hp} {xs : List V} {ds : List PyData} (h : DpAll K H xs ds) (sh : SeqAt.shaped (.tuple ds) = true) (f : fewO (some (.tuple ds))) : Its K H xs ds :=
  ⟨h, (f ds rfl).1, fun d hd => ⟨shaped_iff.mpr ⟨(shaped_of_tuple sh hd).1, Nat.le_succ_of_le (shaped_of_tuple sh hd).2⟩, fun s e => (f ds rfl).2 s (e ▸ hd)⟩⟩
theorem Its.mono {K : PySem.W.Frag} {H H' : Hp} {xs : List V} {ds : List PyData} (s : Same H H') (h : Its K H xs ds) : Its K H' xs ds := ⟨dpAll_mono s h.1, h.2⟩
theorem Its.tail {K : PySem.W.Frag} {H : Hp} {x : V} {d : PyData} {xs : List V} {ds : List PyData} (h : Its K H (x :: xs) (d :: ds)) : Its K H xs ds := by
  obtain ⟨h1, h2, h3⟩ := h
  cases h1 with
  | cons a b => exact ⟨b, Nat.le_of_succ_le h2, fun e he => h3 e (List.mem_cons_of_mem _ he)⟩
theorem Its.head {K : PySem.W.Frag} {H : Hp} {x : V} {d : PyData} {xs : List V} {ds : List PyData} (h : Its K H (x :: xs) (d :: ds)) : Dp K H x d ∧ SeqAt.shaped d = true ∧ VD K H x (some d) := by
  obtain ⟨h1, h2, h3⟩ := h
  cases h1 with
  | cons a b => exact ⟨a, (h3 d List.mem_cons_self).1, .dat a (h3 d List.mem_cons_self).1 (h3 d List.mem_cons_self).2⟩
theorem Its.cons {K : PySem.W.Frag} {H : Hp} {x : V} {d : PyData} {xs : List V} {ds : List PyData} (a : VD K H x (some d)) (h : Its K H xs ds) (f : ds.length < 100) : Its K H (x :: xs) (d :: ds) := by
  cases a with
  | dat p q r => exact ⟨.cons p h.1, f, fun e he => (List.mem_cons.mp he).elim (fun z => by rw [z]; exact ⟨q, r⟩) fun z => h.2.2 e z⟩
theorem Its.nil {K : PySem.W.Frag} {H : Hp} : Its K H [] [] := ⟨.nil, Nat.zero_le _, fun _ h => by cases h⟩
/-- what a starred target leaves -/
theorem star1 (x : V) (r : List V) (q : Addr) : (x :: r).take 1 ++ [V.ref q] ++ ((x :: r).drop 1).drop ((x :: r).length + 1 - 2) = [x, .ref q] ∧ ((x :: r).drop 1).take ((x :: r).length + 1 - 2) = r := by
  have e : (x :: r).length + 1 - 2 = r.length := rfl
  rw [e]
  refine ⟨?_, ?_⟩
  · show x :: V.ref q :: r.drop r.length = _
    rw [List.drop_length]
  · show r.take r.length = _
    rw [List.take_length]
theorem isS_str (s t : Str) : isS (.str s) t = (s == t) := by
  unfold isS
  simp [PyData.eqv]
theorem isS_of {d : PyData} {t : Str} (h : isS d t = true) : d = .str t := by
  cases d with
  | str s =>
    rw [isS_str, beq_iff_eq] at h
    rw [h]
  | _ => simp [isS, PyData.eqv] at h
theorem isS_sh (t : Str) (h : PyData.strOk t = true) : SeqAt.shaped (.str t) = true := shaped_iff.mpr ⟨h, by simp [PyData.depth]⟩
def sp_chg (K : PySem.W.Frag) : Sp := fun vs H Q _ => ∃ (v : V) (o : Option PyData), vs = [v] ∧ VD K H v o ∧ fewO o ∧ ∀ H', Same H H' → Q (.bl (chO o)) H'
def sp_rchg (K : PySem.W.Frag) (C : Addr) : Sp := fun vs H Q E => ∃ (v : V) (o : Option PyData), vs = [v] ∧ VD K H v o ∧ fewO o ∧ (chO o = true → ∀ H', Same H H' → Q .non H') ∧ (chO o = false → Rz H E C "value" v)
def strsOf (ds : List PyData) : List Str := ds.map strOf
def roleD : List PyData → List Str × List Str
  | [] => ([], [])
  | k :: r => if isS k "hang" = true then ([], strsOf (r.take 1)) else if isS k "take" = true then (strsOf r, []) else if isS k "split" = true then (strsOf (r.take 1), strsOf (r.drop 2)) else (strsOf (r.take 2), strsOf (r.drop 2))
/-- a tuple of two new lists of texts -/
def Roles (H : Hp) (Q : VK) (ls : List Str × List Str) : Prop := ∀ p l1 l2 H', Same H H' → H p = none → H l1 = none → H l2 = none → H' p = some (.tup [.ref l1, .ref l2]) → H' l1 = some (.lst (ls.1.map V.str)) → H' l2 = some (.lst (ls.2.map V.str)) → Q (.ref p) H'
def sp_roles (K : PySem.W.Frag) (C : Addr) : Sp := fun vs H Q E => ∃ (v : V) (o : Option PyData), vs = [v] ∧ VD K H v o ∧ fewO o ∧ (chO o = false → Rz H E C "value" v) ∧ ∀ ds, o = some (.tuple ds) → chD ds = true → Roles H Q (roleD ds)
def sp_lroles (K : PySem.W.Frag) : Sp := fun vs H Q _ => ∃ (v : V) (ds : List PyData), vs = [v] ∧ VD K H v (some (.tuple ds)) ∧ fewO (some (.tuple ds)) ∧ chD ds = true ∧ Roles H Q (roleD ds)
/-- two new lists: what the roles are, or the value -/
def sp_told11 (K : PySem.W.Frag) : Sp := fun vs H Q _ => ∃ (v : V) (o : Option PyData), vs = [v] ∧ VD K H v o ∧ fewO o ∧ (chO o = false → ∀ f H', Same H H' → H f = none → H' f = some (.lst [.str "change", v]) → Q (.ref f) H') ∧
  ∀ ds, o = some (.tuple ds) → chD ds = true → ∀ f p l1 l2 H', Same H H' → H f = none → H p = none → H l1 = none → H l2 = none → H' f = some (.lst [.str "told", .ref p]) → H' p = some (.tup [.ref l1, .ref l2]) → H' l1 = some (.lst ((roleD ds).1.map V.str)) → H' l2 = some (.lst ((roleD ds).2.map V.str)) → Q (.ref f) H'
/-- items of changes -/
def GI (K : PySem.W.Frag) (H : Hp) (v : V) : Prop := ∃ d, Dp K H v d ∧ d.canLay0 = true ∧ d.depth ≤ 3 ∧ ∀ s, d = .str s → s.length ≤ 1000
theorem GI.mono {K : PySem.W.Frag} {H H' : Hp} {v : V} (h : GI K H v) (s : Same H H') : GI K H' v := by
  obtain ⟨d, h1, h2⟩ := h
  exact ⟨d, dp_mono s h1, h2⟩
theorem gi_none (K : PySem.W.Frag) (H : Hp) : GI K H .non := ⟨.none, .non, rfl, by simp [PyData.depth], fun _ e => nomatch e⟩
theorem gi_bl (K : PySem.W.Frag) (H : Hp) (b : Bool) : GI K H (.bl b) := ⟨.bool b, .bl b, rfl, by simp [PyData.depth], fun _ e => nomatch e⟩
theorem gi_int (K : PySem.W.Frag) (H : Hp) (i : Int) : GI K H (.int i) := ⟨.int i, .int i, rfl, by simp [PyData.depth], fun _ e => nomatch e⟩
theorem gi_str (K : PySem.W.Frag) (H : Hp) {s : Str} (h : sOk 16 s) : GI K H (.str s) := ⟨.str s, .str s, by simp only [PyData.canLay0]; exact h.2, by simp [PyData.depth], fun t e => by injection e with e; rw [← e]; exact Nat.le_trans h.1 (by decide)⟩
theorem gi_all {K : PySem.W.Frag} {H : Hp} {xs : List V} (g : ∀ x ∈ xs, GI K H x) : ∃ ds, DpAll K H xs ds ∧ ds.length = xs.length ∧ (∀ d ∈ ds, d.canLay0 = true ∧ d.depth ≤ 3) ∧ ∀ s, PyData.str s ∈ ds → s.length ≤ 1000 := by
  induction xs with
  | nil => exact ⟨[], .nil, rfl, (fun d h => by cases h), fun d h => by cases h⟩
  | cons y r ih =>
    obtain ⟨ds, i1, i2, i3, i4⟩ := ih fun x hx => g x (List.mem_cons_of_mem _ hx)
    obtain ⟨d, a, b, c, e⟩ := g y List.mem_cons_self
    refine ⟨d :: ds, .cons a i1, by simp [i2], fun x hx => ?_, fun s hs => ?_⟩
    · rcases List.mem_cons.mp hx with rfl | q
      · exact ⟨b, c⟩
      · exact i3 x q
    · rcases List.mem_cons.mp hs with q | q
      · exact e s q.symm
      · exact i4 s q
/-- a tuple or a list of items -/
def SeqC (H : Hp) (c : Addr) (xs : List V) : Prop := H c = some (.tup xs) ∨ H c = some (.lst xs)
theorem SeqC.mono {H H' : Hp} {c : Addr} {xs : List V} (h : SeqC H c xs) (s : Same H H') : SeqC H' c xs := h.imp (s _ _) (s _ _)
/-- what stands for a value of the law -/
def ValC (K : PySem.W.Frag) (H : Hp) (v : V) : Prop := ∃ o, VD K H v o ∧ fewO o
theorem ValC.mono {K : PySem.W.Frag} {H H' : Hp} {v : V} (h : ValC K H v) (s : Same H H') : ValC K H' v := by
  obtain ⟨o, h1, h2⟩ := h
  exact ⟨o, h1.mono s, h2⟩
theorem seq_val {K : PySem.W.Frag} {H : Hp} {c : Addr} {xs : List V} (h : SeqC H c xs) (g : ∀ x ∈ xs, GI K H x) (few : xs.length ≤ 100) : ValC K H (.ref c) := by
  obtain ⟨ds, i1, i2, i3, i4⟩ := gi_all g
  rcases h with h | h
  · refine ⟨some (.tuple ds), .dat (.tup (SqT.of h) i1) (shaped_iff.mpr ⟨?_, ?_⟩) (fun _ e => nomatch e), fun es e => ?_⟩
    · simp only [PyData.canLay0]
      exact canAll_mem.mpr fun d hd => (i3 d hd).1
    · have := depthAll_le fun d hd => (i3 d hd).2
      simp only [PyData.depth]
      omega
    · injection e with e
      injection e with e
      rw [← e]
      exact ⟨by omega, i4⟩
  · exact ⟨some (.list ds), .dat (.lst (SqL.of h) i1) (shaped_list (n := 3) (by decide) i3) (fun _ e => nomatch e), fun es e => by cases e⟩
theorem less_ok {G G1 H' : Hp} {p l : Addr} {n : Nat} (s : Same G G1) (b : BoxIn G1 H' p n) (h : G l = none) : Same G (but G1 l) ∧ BoxIn (but G1 l) H' p n := by
  refine ⟨fun x u e => ?_, ⟨fun x u e => ?_, ?_, b.box⟩⟩
  · rw [but_ne (ne_of_none e h)]
    exact s _ _ e
  · by_cases hx : x = l
    · rw [hx, but_same] at e
      cases e
    · rw [but_ne hx] at e
      exact b.same _ _ e
  · by_cases hx : p = l
    · rw [hx, but_same]
    · rw [but_ne hx]
      exact b.free
theorem ixN_nat {n : Nat} {z : Int} (h0 : 0 ≤ z) (h1 : z < n) : ixN n z = some z.toNat := by
  unfold ixN
  rw [if_pos h0, if_pos (by omega)]
theorem last_at {ys : List V} (h : ys ≠ []) : atI ys (-1) = some (ys.getLast h) := by
  have l : 0 < ys.length := List.length_pos_iff.mpr h
  unfold atI ixN
  have e : ((-1 : Int) + (ys.length : Int)).toNat = ys.length - 1 := by omega
  rw [if_neg (by decide), if_pos (by omega)]
  show ys[((-1 : Int) + (ys.length : Int)).toNat]? = _
  rw [e, ← List.getLast?_eq_getElem?, List.getLast?_eq_getLast h]
theorem gi_two {K : PySem.W.Frag} {H : Hp} {t : Addr} {a b : Int} (h : H t = some (.tup [.int a, .int b]) ∨ H t = some (.lst [.int a, .int b])) : GI K H (.ref t) := by
  have i : DpAll K H [.int a, .int b] [.int a, .int b] := .cons (.int a) (.cons (.int b) .nil)
  rcases h with h | h
  · exact ⟨.tuple [.int a, .int b], .tup (SqT.of h) i, rfl, by simp [PyData.depth, PyData.depthAll], fun _ e => nomatch e⟩
  · exact ⟨.list [.int a, .int b], .lst (SqL.of h) i, rfl, by simp [PyData.depth, PyData.depthAll], fun _ e => nomatch e⟩
theorem gi_non {K : PySem.W.Frag} {H : Hp} {t : Addr} {b : Int} (h : H t = some (.tup [.non, .int b])) : GI K H (.ref t) :=
  ⟨.tuple [.none, .int b], .tup (SqT.of h) (.cons .non (.cons (.int b) .nil)), rfl, by simp [PyData.depth, PyData.depthAll], fun _ e => nomatch e⟩
theorem gi_one {K : PySem.W.Frag} {H : Hp} {t : Addr} (h : H t = some (.tup [.str "a"])) : GI K H (.ref t) :=
  ⟨.tuple [.str "a"], .tup (SqT.of h) (.cons (.str _) .nil), by decide +kernel, by decide +kernel, fun _ e => nomatch e⟩
theorem its_one {K : PySem.W.Frag} {H : Hp} : ∀ {xs : List V} {ds : List PyData}, DpAll K H xs ds → xs.length = 1 → ∃ x d, xs = [x] ∧ ds = [d]
  | [x], [d], .cons _ .nil, _ => ⟨x, d, rfl, rfl⟩
theorem its_two {K : PySem.W.Frag} {H : Hp} : ∀ {xs : List V} {ds : List PyData}, DpAll K H xs ds → xs.length = 2 → ∃ x y d e, xs = [x, y] ∧ ds = [d, e]
  | [x, y], [d, e], .cons _ (.cons _ .nil), _ => ⟨x, y, d, e, rfl, rfl⟩
theorem its_three {K : PySem.W.Frag} {H : Hp} : ∀ {xs : List V} {ds : List PyData}, DpAll K H xs ds → xs.length = 3 → ∃ x y z d e f, xs = [x, y, z] ∧ ds = [d, e, f]
  | [x, y, z], [d, e, f], .cons _ (.cons _ (.cons _ .nil)), _ => ⟨x, y, z, d, e, f, rfl, rfl⟩
theorem its_four {K : PySem.W.Frag} {H : Hp} : ∀ {xs : List V} {ds : List PyData}, DpAll K H xs ds → xs.length = 4 → ∃ x y z u d e f g, xs = [x, y, z, u] ∧ ds = [d, e, f, g]
  | [x, y, z, u], [d, e, f, g], .cons _ (.cons _ (.cons _ (.cons _ .nil))), _ => ⟨x, y, z, u, d, e, f, g, rfl, rfl⟩
theorem take_no {ds : List PyData} (h : ds.length ≠ 1) : takeD ds = false := by
  match ds, h with
  | [], _ => rfl
  | [_], h => exact absurd rfl h
  | _ :: _ :: _, _ => rfl
theorem hang_no {ds : List PyData} (h : ds.length ≠ 2) : hangD ds = false := by
  match ds, h with
  | [], _ => rfl
  | [_], _ => rfl
  | [_, _], h => exact absurd rfl h
  | _ :: _ :: _ :: _, _ => rfl
theorem join_no {ds : List PyData} (h : ds.length ≠ 3) : joinD ds = false := by
  match ds, h with
  | [], _ => rfl
  | [_], _ => rfl
  | [_, _], _ => rfl
  | [_, _, _], h => exact absurd rfl h
  | _ :: _ :: _ :: _ :: _, _ => rfl
theorem split_no {ds : List PyData} (h : ds.length ≠ 4) : splitD ds = false := by
  match ds, h with
  | [], _ => rfl
  | [_], _ => rfl
  | [_, _], _ => rfl
  | [_, _, _], _ => rfl
  | [_, _, _, _], h => exact absurd rfl h
  | _ :: _ :: _ :: _ :: _ :: _, _ => rfl
theorem dp_cases {K : PySem.W.Frag} {H : Hp} {xs : List V} {ds : List PyData} (h : DpAll K H xs ds) : (xs = [] ∧ ds = []) ∨ ∃ x r d e, xs = x :: r ∧ ds = d :: e := by
  cases h with
  | nil => exact .inl ⟨rfl, rfl⟩
  | cons a b => exact .inr ⟨_, _, _, _, rfl, rfl⟩
theorem lenF {n : Nat} {m : Int} (h : (n : Int) ≠ m) : decide (V.int (n : Int) = V.int m) = false := decide_eq_false fun z => by
  injection z with z
  exact h z
theorem lenT {n : Nat} {m : Int} (h : (n : Int) = m) : decide (V.int (n : Int) = V.int m) = true := by
  rw [h]
  exact decide_eq_true rfl
theorem chD_hang {d : PyData} {e : List PyData} (h : isS d "hang" = true) : chD (d :: e) = hangD e := if_pos h
theorem chD_take {d : PyData} {e : List PyData} (h0 : isS d "hang" = false) (h : isS d "take" = true) : chD (d :: e) = takeD e := by
  show (if _ then _ else _) = _
  rw [if_neg (by rw [h0]; decide), if_pos h]
theorem chD_split {d : PyData} {e : List PyData} (h0 : isS d "hang" = false) (h1 : isS d "take" = false) (h : isS d "split" = true) : chD (d :: e) = splitD e := by
  show (if _ then _ else _) = _
  rw [if_neg (by rw [h0]; decide), if_neg (by rw [h1]; decide), if_pos h]
theorem chD_join {d : PyData} {e : List PyData} (h0 : isS d "hang" = false) (h1 : isS d "take" = false) (h2 : isS d "split" = false) : chD (d :: e) = (isS d "join" && joinD e) := by
  show (if _ then _ else _) = _
  rw [if_neg (by rw [h0]; decide), if_neg (by rw [h1]; decide), if_neg (by rw [h2]; decide)]
theorem name_v {K : PySem.W.Frag} {H : Hp} {x : V} {d : PyData} (h : Dp K H x d) (e : nameO (some d) = true) : ∃ n, d = .str n ∧ x = .str n := by
  obtain ⟨n, rfl⟩ := nameO_str e
  cases h
  exact ⟨n, rfl, rfl⟩
theorem diff_names {ds : List PyData} (h : diffN ds = true) : ∀ d ∈ ds, nameO (some d) = true := by
  unfold diffN at h
  rw [Bool.and_eq_true] at h
  exact List.all_eq_true.mp h.1
theorem roles_fin {H H2 H3 : Hp} {Q : VK} {ls : List Str × List Str} (k : Roles H Q ls) (s : Same H H2) {p l1 l2 : Addr} (s3 : Same H2 H3) (h1 : H3 l1 = some (.lst (ls.1.map V.str))) (h2 : H3 l2 = some (.lst (ls.2.map V.str))) (hp : H3 p = none) (n1 : H l1 = none) (n2 : H l2 = none) :
    Q (.ref p) (upd H3 p (.tup [.ref l1, .ref l2])) := k p l1 l2 _ (s.trans (s3.trans (same_new hp))) ((s.trans s3).free hp) n1 n2 upd_same (same_new hp _ _ h1) (same_new hp _ _ h2)
theorem roleD_hang {d : PyData} {e : List PyData} (h : isS d "hang" = true) : roleD (d :: e) = ([], strsOf (e.take 1)) := if_pos h
theorem roleD_take {d : PyData} {e : List PyData} (h0 : isS d "hang" = false) (h : isS d "take" = true) : roleD (d :: e) = (strsOf e, []) := by
  show (if _ then _ else _) = _
  rw [if_neg (by rw [h0]; decide), if_pos h]
theorem roleD_split {d : PyData} {e : List PyData} (h0 : isS d "hang" = false) (h1 : isS d "take" = false) (h : isS d "split" = true) : roleD (d :: e) = (strsOf (e.take 1), strsOf (e.drop 2)) := by
  show (if _ then _ else _) = _
  rw [if_neg (by rw [h0]; decide), if_neg (by rw [h1]; decide), if_pos h]
theorem roleD_join {d : PyData} {e : List PyData} (h0 : isS d "hang" = false) (h1 : isS d "take" = false) (h2 : isS d "split" = false) : roleD (d :: e) = (strsOf (e.take 2), strsOf (e.drop 2)) := by
  show (if _ then _ else _) = _
  rw [if_neg (by rw [h0]; decide), if_neg (by rw [h1]; decide), if_neg (by rw [h2]; decide)]
/-- the items of a change, by its kind -/
theorem hang_is {K : PySem.W.Frag} {H : Hp} {xs : List V} {ds : List PyData} (D : DpAll K H xs ds) (h : hangD ds = true) : ∃ n x1 d1, xs = [.str n, x1] ∧ ds = [.str n, d1] := by
  by_cases l : xs.length = 2
  · obtain ⟨x0, x1, d0, d1, rfl, rfl⟩ := its_two D l
    have h : (nameO (some d0) && spanO (some d1)) = true := h
    rw [Bool.and_eq_true] at h
    cases D with
    | cons a b =>
      obtain ⟨n, rfl, rfl⟩ := name_v a h.1
      exact ⟨n, x1, d1, rfl, rfl⟩
  · rw [hang_no (by rw [← dpAll_len D]; exact l)] at h
    cases h
theorem take_is {K : PySem.W.Frag} {H : Hp} {xs : List V} {ds : List PyData} (D : DpAll K H xs ds) (h : takeD ds = true) : ∃ n, xs = [.str n] ∧ ds = [.str n] := by
  by_cases l : xs.length = 1
  · obtain ⟨x0, d0, rfl, rfl⟩ := its_one D l
    cases D with
    | cons a b =>
      obtain ⟨n, rfl, rfl⟩ := name_v a h
      exact ⟨n, rfl, rfl⟩
  · rw [take_no (by rw [← dpAll_len D]; exact l)] at h
    cases h
theorem split_is {K : PySem.W.Frag} {H : Hp} {xs : List V} {ds : List PyData} (D : DpAll K H xs ds) (h : splitD ds = true) : ∃ n x1 d1 l r, xs = [.str n, x1, .str l, .str r] ∧ ds = [.str n, d1, .str l, .str r] := by
  by_cases l : xs.length = 4
  · obtain ⟨x0, x1, x2, x3, d0, d1, d2, d3, rfl, rfl⟩ := its_four D l
    have h : (intO (some d1) && diffN [d0, d2, d3]) = true := h
    rw [Bool.and_eq_true] at h
    have n := diff_names h.2
    cases D with
    | cons a b =>
      cases b with
      | cons b c =>
        cases c with
        | cons c d =>
          cases d with
          | cons d e =>
            obtain ⟨n0, rfl, rfl⟩ := name_v a (n _ (by simp))
            obtain ⟨n2, rfl, rfl⟩ := name_v c (n _ (by simp))
            obtain ⟨n3, rfl, rfl⟩ := name_v d (n _ (by simp))
            exact ⟨n0, x1, d1, n2, n3, rfl, rfl⟩
  · rw [split_no (by rw [← dpAll_len D]; exact l)] at h
    cases h
theorem join_is {K : PySem.W.Frag} {H : Hp} {xs : List V} {ds : List PyData} (D : DpAll K H xs ds) (h : joinD ds = true) : ∃ l r n, xs = [.str l, .str r, .str n] ∧ ds = [.str l, .str r, .str n] := by
  by_cases l : xs.length = 3
  · obtain ⟨x0, x1, x2, d0, d1, d2, rfl, rfl⟩ := its_three D l
    have n := diff_names (show diffN [d0, d1, d2] = true from h)
    cases D with
    | cons a b =>
      cases b with
      | cons b c =>
        cases c with
        | cons c d =>
          obtain ⟨n0, rfl, rfl⟩ := name_v a (n _ (by simp))
          obtain ⟨n1, rfl, rfl⟩ := name_v b (n _ (by simp))
          obtain ⟨n2, rfl, rfl⟩ := name_v c (n _ (by simp))
          exact ⟨n0, n1, n2, rfl, rfl⟩
  · rw [join_no (by rw [← dpAll_len D]; exact l)] at h
    cases h
theorem eqv_nilT (ds : List PyData) : PyData.eqv (.tuple ds) (.tuple []) = ds.isEmpty := by
  cases ds with
  | nil => simp [PyData.eqv, PyData.eqvAll]
  | cons d r => simp [PyData.eqv, PyData.eqvAll]
theorem eqv_sym (s : Str) (d : PyData) : PyData.eqv (.str s) d = isS d s := by
  cases d with
  | str t =>
    rw [isS_str]
    simp [PyData.eqv]
    rw [Bool.eq_iff_iff, beq_iff_eq, beq_iff_eq]
    exact ⟨fun e => e.symm, fun e => e.symm⟩
  | _ => simp [isS, PyData.eqv]
theorem any4 (d : PyData) : (([.str "hang", .str "take", .str "split", .str "join"] : List PyData).any fun z => PyData.eqv z d) = (isS d "hang" || (isS d "take" || (isS d "split" || isS d "join"))) := by
  simp only [List.any_cons, List.any_nil, eqv_sym, Bool.or_false]
def metI (xs : List Str) (j : Nat) : Bool := met xs j (xs.getD j Str.empty)
theorem met_empty (xs : List Str) : ((List.range xs.length).filter (metI xs)).isEmpty = decide (metN xs xs.length = xs.length) := by
  rw [Bool.eq_iff_iff, List.isEmpty_iff, decide_eq_true_iff, List.filter_eq_nil_iff]
  unfold metN metI
  have h : ((List.range xs.length).filter fun j => !met xs j (xs.getD j Str.empty)).length = xs.length ↔ ∀ j ∈ List.range xs.length, (!met xs j (xs.getD j Str.empty)) = true := by
    have := List.length_filter_eq_length_iff (p := fun j => !met xs j (xs.getD j Str.empty)) (l := List.range xs.length)
    rw [List.length_range] at this
    exact this
  rw [h]
  exact ⟨fun q j hj => by simpa using q j hj, fun q j hj => by simpa using q j hj⟩
theorem met_in (xs : List Str) (j : Nat) (k : Str) : decide (k ∈ xs.take j) = met xs j k := by
  unfold met
  rw [Bool.eq_iff_iff, decide_eq_true_iff, List.any_eq_true]
  exact ⟨fun h => ⟨k, h, by simp⟩, fun ⟨y, hy, e⟩ => by
    rw [beq_iff_eq] at e
    rw [← e]
    exact hy⟩
theorem none4 {d : PyData} {e : List PyData} (h : (isS d "hang" || (isS d "take" || (isS d "split" || isS d "join"))) = false) : chD (d :: e) = false := by
  rw [Bool.or_eq_false_iff, Bool.or_eq_false_iff, Bool.or_eq_false_iff] at h
  rw [chD_join h.1 h.2.1 h.2.2.1, h.2.2.2]
  rfl
theorem one4 {d : PyData} (h : (isS d "hang" || (isS d "take" || (isS d "split" || isS d "join"))) = true) : d = .str "hang" ∨ d = .str "take" ∨ d = .str "split" ∨ d = .str "join" := by
  rw [Bool.or_eq_true, Bool.or_eq_true, Bool.or_eq_true] at h
  exact h.imp isS_of fun h => h.imp isS_of fun h => h.imp isS_of isS_of
def kinds4 : List (Key × V) := [(.inr "hang", .int 2), (.inr "take", .int 1), (.inr "split", .int 4), (.inr "join", .int 3)]
def cntW (w : Str) : Int := if w = "hang" then 2 else if w = "take" then 1 else if w = "split" then 4 else 3
theorem kinds4_at : ∀ w ∈ (["hang", "take", "split", "join"] : List Str), valV (mergeK [] kinds4) (.inr w) = some (.int (cntW w)) := by
  intro w hw
  simp only [List.mem_cons, List.not_mem_nil, or_false] at hw
  rcases hw with rfl | rfl | rfl | rfl
  all_goals decide +kernel
theorem sh4 : ∀ w ∈ (["hang", "take", "split", "join"] : List Str), SeqAt.shaped (.str w) = true := by decide +kernel
theorem chD_len : ∀ {w : Str} {es : List PyData}, w ∈ (["hang", "take", "split", "join"] : List Str) → ((es.length : Nat) : Int) ≠ cntW w → chD (.str w :: es) = false := by
  intro w es hw h
  simp only [List.mem_cons, List.not_mem_nil, or_false] at hw
  rcases hw with rfl | rfl | rfl | rfl
  · rw [chD_hang (by decide +kernel), hang_no (fun e => h (by rw [e]; decide +kernel))]
  · rw [chD_take (by decide +kernel) (by decide +kernel), take_no (fun e => h (by rw [e]; decide +kernel))]
  · rw [chD_split (by decide +kernel) (by decide +kernel) (by decide +kernel), split_no (fun e => h (by rw [e]; decide +kernel))]
  · rw [chD_join (by decide +kernel) (by decide +kernel) (by decide +kernel), join_no (fun e => h (by rw [e]; decide +kernel)), Bool.and_false]
theorem chw_hang (es : List PyData) : chD (.str "hang" :: es) = hangD es := chD_hang (by decide +kernel)
theorem chw_take (es : List PyData) : chD (.str "take" :: es) = takeD es := chD_take (by decide +kernel) (by decide +kernel)
theorem chw_split (es : List PyData) : chD (.str "split" :: es) = splitD es := chD_split (by decide +kernel) (by decide +kernel) (by decide +kernel)
theorem chw_join (es : List PyData) : chD (.str "join" :: es) = joinD es := by
  rw [chD_join (by decide +kernel) (by decide +kernel) (by decide +kernel), show isS (.str "join") "join" = true by decide +kernel]
  rfl
theorem diff_one (d : PyData) : diffN [d] = nameO (some d) := by
  unfold diffN
  simp [metN, met]
theorem not_lim {d : PyData} (h : nonO (some d) = true) : intO (some d) = false := by
  cases d <;> first | rfl | cases h
theorem lim_int {d : PyData} (h : nonO (some d) = false) : limO (some d) = intO (some d) := by
  unfold limO
  rw [h]
  rfl
theorem eqv_strs (a b : Str) : PyData.eqv (.str a) (.str b) = (a == b) := isS_str a b
def sp_right11 (K : PySem.W.Frag) : Sp := fun vs H Q _ => ∃ (H0 : Hp) (p q : Addr) (n : Nat) (ss : List Str), vs = [.ref p, .ref q] ∧ BoxIn H0 H p n ∧ H0 q = some (.lst (ss.map V.str)) ∧ ss.length = 3 ∧ (∀ s ∈ ss, sOk 16 s) ∧ n + 2 < 1000000 ∧
  ∀ (H1 H' : Hp) (t : Addr) (xs : List V), Same H0 H1 → BoxIn H1 H' p (n + 2) → H1 t = some (.tup xs) → 0 < xs.length → xs.length ≤ 5 → (∀ x ∈ xs, GI K H1 x) → Q (.ref t) H'
def sp_bent11 (K : PySem.W.Frag) : Sp := fun vs H Q _ => ∃ (H0 : Hp) (p c : Addr) (n : Nat) (xs : List V), vs = [.ref p, .ref c] ∧ BoxIn H0 H p n ∧ SeqC H0 c xs ∧ 0 < xs.length ∧ xs.length ≤ 40 ∧ (∀ x ∈ xs, GI K H0 x) ∧ n + 10 < 1000000 ∧
  ∀ (H1 H' : Hp) (c' : Addr) (xs' : List V), Same H0 H1 → BoxIn H1 H' p (n + 10) → SeqC H1 c' xs' → xs'.length ≤ xs.length + 1 → (∀ x ∈ xs', GI K H1 x) → Q (.ref c') H'
/-- two lists of the same objects, or data -/
def rNeU (K : PySem.W.Frag) : R2 := fun x y H Q => rNeS K x y H Q ∨ rNeD K x y H Q
theorem op_neU {X : Cx} (hu : X.A.units + 64 < cLine) : OpR X (compareOp .NotEq) (rNeU X.K) := fun pins s σ H x y v u Q I rx ry h => h.elim (op_neS hu pins s σ H x y v u Q I rx ry) (op_neD hu pins s σ H x y v u Q I rx ry)
/-- two lists of texts as data -/
def rolesT (ls : List Str × List Str) : PyData := .tuple [.list (ls.1.map PyData.str), .list (ls.2.map PyData.str)]
theorem or_one {K : PySem.W.Frag} {σ : L2.St} {Q : V → Hp → Prop} {c : Bool} {x : V} {H : Hp} (Good : V → Hp → Prop) (rest : ∀ x H, Good x H → Q x H) (h1 : c = true → Good x H) (h2 : c = false → ∀ t, H t = none → Good (.ref t) (upd H t (.tup [.int 1]))) :
    if c = true then Q x H else tTup (tCons (tC (V.int 1)) tNil) σ H Q := by
  cases c with
  | true => exact iteT (rest _ _ (h1 rfl))
  | false => exact iteF ⟨by show 1 ≤ sizeLine; decide, fun t ht => rest _ _ (h2 rfl t ht)⟩
theorem vd_sure {K : PySem.W.Frag} {H : Hp} {v : V} {o : Option PyData} (h : VD K H v o) : sureV v = true := by
  cases h with
  | dat a _ _ => cases a <;> rfl
  | dic a => rfl
theorem role_hang (n : Str) (d : PyData) : roleD [.str "hang", .str n, d] = ([], [n]) := roleD_hang (by decide +kernel)
theorem role_take (n : Str) : roleD [.str "take", .str n] = ([n], []) := roleD_take (by decide +kernel) (by decide +kernel)
theorem role_split (n l r : Str) (d : PyData) : roleD [.str "split", .str n, d, .str l, .str r] = ([n], [l, r]) := roleD_split (by decide +kernel) (by decide +kernel) (by decide +kernel)
theorem role_join (n l r : Str) : roleD [.str "join", .str l, .str r, .str n] = ([l, r], [n]) := roleD_join (by decide +kernel) (by decide +kernel) (by decide +kernel)
theorem ch_cases {K : PySem.W.Frag} {H : Hp} {xs : List V} {ds : List PyData} (D : DpAll K H xs ds) (h : chD ds = true) : (∃ n x1 d1, xs = [.str "hang", .str n, x1] ∧ ds = [.str "hang", .str n, d1]) ∨ (∃ n, xs = [.str "take", .str n] ∧ ds = [.str "take", .str n]) ∨
    (∃ n x1 d1 l r, xs = [.str "split", .str n, x1, .str l, .str r] ∧ ds = [.str "split", .str n, d1, .str l, .str r]) ∨ ∃ l r n, xs = [.str "join", .str l, .str r, .str n] ∧ ds = [.str "join", .str l, .str r, .str n] := by
  obtain ⟨rfl, rfl⟩ | ⟨x, r, d, es, rfl, rfl⟩ := dp_cases D
  · cases h
  · obtain ⟨a, b⟩ : Dp K H x d ∧ DpAll K H r es := by
      cases D with
      | cons a b => exact ⟨a, b⟩
    clear D
    cases c0 : (isS d "hang" || (isS d "take" || (isS d "split" || isS d "join"))) with
    | false =>
      rw [none4 c0] at h
      cases h
    | true =>
      rcases one4 c0 with rfl | rfl | rfl | rfl
      all_goals cases a
      · rw [chw_hang] at h
        obtain ⟨n, x1, d1, rfl, rfl⟩ := hang_is b h
        exact .inl ⟨n, x1, d1, rfl, rfl⟩
      · rw [chw_take] at h
        obtain ⟨n, rfl, rfl⟩ := take_is b h
        exact .inr (.inl ⟨n, rfl, rfl⟩)
      · rw [chw_split] at h
        obtain ⟨n, x1, d1, l, r, rfl, rfl⟩ := split_is b h
        exact .inr (.inr (.inl ⟨n, x1, d1, l, r, rfl, rfl⟩))
      · rw [chw_join] at h
        obtain ⟨l, r, n, rfl, rfl⟩ := join_is b h
        exact .inr (.inr (.inr ⟨l, r, n, rfl, rfl⟩))
/-- two lists of texts as data -/
def twoD (ls : List Str × List Str) : PyData := .tuple [.list (ls.1.map PyData.str), .list (ls.2.map PyData.str)]
theorem dp_two_l {K : PySem.W.Frag} {H : Hp} {p l1 l2 : Addr} {ls : List Str × List Str} (hp : H p = some (.tup [.ref l1, .ref l2])) (h1 : H l1 = some (.lst (ls.1.map V.str))) (h2 : H l2 = some (.lst (ls.2.map V.str))) : Dp K H (.ref p) (twoD ls) :=
  .tup (SqT.of hp) (.cons (.lst (SqL.of h1) (dpAll_strs _)) (.cons (.lst (SqL.of h2) (dpAll_strs _)) .nil))
theorem strs_can {ss : List Str} (h : ∀ s ∈ ss, PyData.strOk s = true) : (PyData.list (ss.map PyData.str)).canLay0 = true ∧ (PyData.list (ss.map PyData.str)).depth ≤ 1 := by
  constructor
  · simp only [PyData.canLay0]
    refine canAll_mem.mpr fun d hd => ?_
    obtain ⟨s, hs, rfl⟩ := List.mem_map.mp hd
    simp only [PyData.canLay0]
    exact h s hs
  · have : PyData.depthAll (ss.map PyData.str) ≤ 0 := depthAll_le fun d hd => by
      obtain ⟨s, hs, rfl⟩ := List.mem_map.mp hd
      simp [PyData.depth]
    simp only [PyData.depth]
    omega
theorem two_can {ls : List Str × List Str} (h1 : ∀ s ∈ ls.1, PyData.strOk s = true) (h2 : ∀ s ∈ ls.2, PyData.strOk s = true) : (twoD ls).canLay0 = true ∧ (twoD ls).depth ≤ 2 := by
  have a := strs_can h1
  have b := strs_can h2
  constructor
  · simp only [twoD, PyData.canLay0]
    refine canAll_mem.mpr fun d hd => ?_
    simp only [List.mem_cons, List.not_mem_nil, or_false] at hd
    rcases hd with rfl | rfl
    · exact a.1
    · exact b.1
  · have : PyData.depthAll [.list (ls.1.map PyData.str), .list (ls.2.map PyData.str)] ≤ 1 := depthAll_le fun d hd => by
      simp only [List.mem_cons, List.not_mem_nil, or_false] at hd
      rcases hd with rfl | rfl
      · exact a.2
      · exact b.2
    simp only [twoD, PyData.depth]
    omega
/-- the names that roles tell are texts that can be laid -/
theorem role_ok {K : PySem.W.Frag} {H : Hp} {xs : List V} {ds : List PyData} (D : DpAll K H xs ds) (h : chD ds = true) (sh : SeqAt.shaped (.tuple ds) = true) : (∀ s ∈ (roleD ds).1, PyData.strOk s = true) ∧ ∀ s ∈ (roleD ds).2, PyData.strOk s = true := by
  have key : ∀ s, PyData.str s ∈ ds → PyData.strOk s = true := fun s hs => by
    have := (shaped_of_tuple sh hs).1
    simpa only [PyData.canLay0] using this
  rcases ch_cases D h with ⟨n, x1, d1, rfl, rfl⟩ | ⟨n, rfl, rfl⟩ | ⟨n, x1, d1, l, r, rfl, rfl⟩ | ⟨l, r, n, rfl, rfl⟩
  · rw [role_hang]
    exact ⟨fun s h => (List.not_mem_nil h).elim, fun s h => by rw [List.mem_singleton.mp h]; exact key n (by simp)⟩
  · rw [role_take]
    exact ⟨fun s h => by rw [List.mem_singleton.mp h]; exact key n (by simp), fun s h => (List.not_mem_nil h).elim⟩
  · rw [role_split]
    refine ⟨fun s h => by rw [List.mem_singleton.mp h]; exact key n (by simp), fun s h => ?_⟩
    simp only [List.mem_cons, List.not_mem_nil, or_false] at h
    rcases h with rfl | rfl
    all_goals exact key _ (by simp)
  · rw [role_join]
    refine ⟨fun s h => ?_, fun s h => by rw [List.mem_singleton.mp h]; exact key n (by simp)⟩
    simp only [List.mem_cons, List.not_mem_nil, or_false] at h
    rcases h with rfl | rfl
    all_goals exact key _ (by simp)
theorem told_can {ls : List Str × List Str} (h : (twoD ls).canLay0 = true ∧ (twoD ls).depth ≤ 2) : SeqAt.shaped (.list [.str "told", twoD ls]) = true := shaped_list (n := 2) (by decide) fun d hd => by
  simp only [List.mem_cons, List.not_mem_nil, or_false] at hd
  rcases hd with rfl | rfl
  · exact ⟨by decide +kernel, by decide +kernel⟩
  · exact h
theorem role_len {K : PySem.W.Frag} {H : Hp} {xs : List V} {ds : List PyData} (D : DpAll K H xs ds) (h : chD ds = true) : (roleD ds).1.length ≤ 2 := by
  rcases ch_cases D h with ⟨n, x1, d1, rfl, rfl⟩ | ⟨n, rfl, rfl⟩ | ⟨n, x1, d1, l, r, rfl, rfl⟩ | ⟨l, r, n, rfl, rfl⟩
  · rw [role_hang]
    exact Nat.zero_le _
  · rw [role_take]
    exact Nat.le_succ 1
  · rw [role_split]
    exact Nat.le_succ 1
  · rw [role_join]
    exact Nat.le_refl 2
theorem few_no {o : Option PyData} (h : isT "tuple" o = false) : fewO o := fun ds e => by
  rw [e] at h
  cases h
theorem vc_non (K : PySem.W.Frag) (H : Hp) : ValC K H .non := ⟨some .none, .dat .non (by decide +kernel) (fun _ e => nomatch e), few_no rfl⟩
theorem vc_int (K : PySem.W.Frag) (H : Hp) (i : Int) : ValC K H (.int i) := ⟨some (.int i), .dat (.int i) (shaped_iff.mpr ⟨rfl, by simp [PyData.depth]⟩) (fun _ e => nomatch e), few_no rfl⟩
theorem vc_hang (K : PySem.W.Frag) (H : Hp) : ValC K H (.str "hang") := ⟨some (.str "hang"), .dat (.str _) (by decide +kernel) (fun s e => by cases e; decide +kernel), few_no rfl⟩
theorem vc_dic {K : PySem.W.Frag} {H : Hp} {t : Addr} (h : H t = some (.dK [])) : ValC K H (.ref t) := ⟨none, .dic h, few_no rfl⟩
theorem gi_seq1 {K : PySem.W.Frag} {H : Hp} {t : Addr} (h : H t = some (.tup [.str "take"])) : GI K H (.ref t) :=
  ⟨.tuple [.str "take"], .tup (SqT.of h) (.cons (.str _) .nil), by decide +kernel, by decide +kernel, fun _ e => nomatch e⟩
/-- what the top has written -/
structure Txt (K : PySem.W.Frag) (mg : Str → Option Value) where
  f_InvalidChange_init : Addr
  fd_InvalidChange_init : FuncData
  F_InvalidChange_init : Fun K "__init__" "InvalidChange.__init__" s_InvalidChange_init f_InvalidChange_init fd_InvalidChange_init
  b_InvalidChange_init : Binds K fd_InvalidChange_init ["self", "value"] []
  f_is_integer : Addr
  fd_is_integer : FuncData
  F_is_integer : Fun K "is_integer" "is_integer" s_is_integer f_is_integer fd_is_integer
  b_is_integer : Binds K fd_is_integer ["value"] []
  m_is_integer : mg "is_integer" = some (.ref f_is_integer)
  f_is_name : Addr
  fd_is_name : FuncData
  F_is_name : Fun K "is_name" "is_name" s_is_name f_is_name fd_is_name
  b_is_name : Binds K fd_is_name ["value"] []
  m_is_name : mg "is_name" = some (.ref f_is_name)
  f_is_span : Addr
  fd_is_span : FuncData
  F_is_span : Fun K "is_span" "is_span" s_is_span f_is_span fd_is_span
  b_is_span : Binds K fd_is_span ["value"] []
  m_is_span : mg "is_span" = some (.ref f_is_span)
  f_is_limit : Addr
  fd_is_limit : FuncData
  F_is_limit : Fun K "is_limit" "is_limit" s_is_limit f_is_limit fd_is_limit
  b_is_limit : Binds K fd_is_limit ["value"] []
  m_is_limit : mg "is_limit" = some (.ref f_is_limit)
  f_is_change : Addr
  fd_is_change : FuncData
  F_is_change : Fun K "is_change" "is_change" s_is_change f_is_change fd_is_change
  b_is_change : Binds K fd_is_change ["value"] []
  m_is_change : mg "is_change" = some (.ref f_is_change)
  f_are_different_names : Addr
  fd_are_different_names : FuncData
  F_are_different_names : Fun K "are_different_names" "are_different_names" s_are_different_names f_are_different_names fd_are_different_names
  b_are_different_names : Binds K fd_are_different_names ["values"] []
  m_are_different_names : mg "are_different_names" = some (.ref f_are_different_names)
  f_require_change : Addr
  fd_require_change : FuncData
  F_require_change : Fun K "require_change" "require_change" s_require_change f_require_change fd_require_change
  b_require_change : Binds K fd_require_change ["value"] []
  m_require_change : mg "require_change" = some (.ref f_require_change)
  f_roles : Addr
  fd_roles : FuncData
  F_roles : Fun K "roles" "roles" s_roles f_roles fd_roles
  b_roles : Binds K fd_roles ["change"] []
  m_roles : mg "roles" = some (.ref f_roles)
  f_law_cell : Addr
  fd_law_cell : FuncData
  F_law_cell : Fun K "_law_cell" "_law_cell" s_law_cell f_law_cell fd_law_cell
  b_law_cell : Binds K fd_law_cell ["_law_script", "_law_k"] []
  m_law_cell : mg "_law_cell" = some (.ref f_law_cell)
  f_law_box : Addr
  fd_law_box : FuncData
  F_law_box : Fun K "_law_box" "_law_box" s_law_box f_law_box fd_law_box
  b_law_box : Binds K fd_law_box ["_law_cell_here"] []
  m_law_box : mg "_law_box" = some (.ref f_law_box)
  f_law_take : Addr
  fd_law_take : FuncData
  F_law_take : Fun K "_law_take" "_law_take" s_law_take f_law_take fd_law_take
  b_law_take : Binds K fd_law_take ["_law_box_here", "_law_many"] []
  m_law_take : mg "_law_take" = some (.ref f_law_take)
  f_law_mixed : Addr
  fd_law_mixed : FuncData
  F_law_mixed : Fun K "_law_mixed" "_law_mixed" s_law_mixed f_law_mixed fd_law_mixed
  b_law_mixed : Binds K fd_law_mixed ["_law_box_here", "_law_some"] []
  m_law_mixed : mg "_law_mixed" = some (.ref f_law_mixed)
  f_law_names : Addr
  fd_law_names : FuncData
  F_law_names : Fun K "_law_names" "_law_names" s_law_names f_law_names fd_law_names
  b_law_names : Binds K fd_law_names ["_law_box_here", "_law_many"] []
  m_law_names : mg "_law_names" = some (.ref f_law_names)
  f_law_is_name : Addr
  fd_law_is_name : FuncData
  F_law_is_name : Fun K "_law_is_name" "_law_is_name" s_law_is_name f_law_is_name fd_law_is_name
  b_law_is_name : Binds K fd_law_is_name ["_law_value"] []
  m_law_is_name : mg "_law_is_name" = some (.ref f_law_is_name)
  f_law_is_limit : Addr
  fd_law_is_limit : FuncData
  F_law_is_limit : Fun K "_law_is_limit" "_law_is_limit" s_law_is_limit f_law_is_limit fd_law_is_limit
  b_law_is_limit : Binds K fd_law_is_limit ["_law_value"] []
  m_law_is_limit : mg "_law_is_limit" = some (.ref f_law_is_limit)
  f_law_is_span : Addr
  fd_law_is_span : FuncData
  F_law_is_span : Fun K "_law_is_span" "_law_is_span" s_law_is_span f_law_is_span fd_law_is_span
  b_law_is_span : Binds K fd_law_is_span ["_law_value"] []
  m_law_is_span : mg "_law_is_span" = some (.ref f_law_is_span)
  f_law_is_change : Addr
  fd_law_is_change : FuncData
  F_law_is_change : Fun K "_law_is_change" "_law_is_change" s_law_is_change f_law_is_change fd_law_is_change
  b_law_is_change : Binds K fd_law_is_change ["_law_value"] []
  m_law_is_change : mg "_law_is_change" = some (.ref f_law_is_change)
  f_law_right : Addr
  fd_law_right : FuncData
  F_law_right : Fun K "_law_right" "_law_right" s_law_right f_law_right fd_law_right
  b_law_right : Binds K fd_law_right ["_law_box_here", "_law_names_here"] []
  m_law_right : mg "_law_right" = some (.ref f_law_right)
  f_law_bent : Addr
  fd_law_bent : FuncData
  F_law_bent : Fun K "_law_bent" "_law_bent" s_law_bent f_law_bent fd_law_bent
  b_law_bent : Binds K fd_law_bent ["_law_box_here", "_law_change"] []
  m_law_bent : mg "_law_bent" = some (.ref f_law_bent)
  f_law_told : Addr
  fd_law_told : FuncData
  F_law_told : Fun K "_law_told" "_law_told" s_law_told f_law_told fd_law_told
  b_law_told : Binds K fd_law_told ["_law_value"] []
  m_law_told : mg "_law_told" = some (.ref f_law_told)
  f_law_roles : Addr
  fd_law_roles : FuncData
  F_law_roles : Fun K "_law_roles" "_law_roles" s_law_roles f_law_roles fd_law_roles
  b_law_roles : Binds K fd_law_roles ["_law_change"] []
  m_law_roles : mg "_law_roles" = some (.ref f_law_roles)
  f_law : Addr
  fd_law : FuncData
  F_law : Fun K "law" "law" s_law f_law fd_law
  b_law : Binds K fd_law ["_law_script"] []
  m_law : mg "law" = some (.ref f_law)
  C_PartsError : Addr
  g_PartsError : mg "PartsError" = some (.ref C_PartsError)
  C_InvalidChange : Addr
  g_InvalidChange : mg "InvalidChange" = some (.ref C_InvalidChange)
  x_InvalidChange : OexC K C_InvalidChange
  y_InvalidChange : XfC K C_InvalidChange
  n_InvalidChange : PySem.W.findIn K (.ref C_InvalidChange) "value" = some none
  i_InvalidChange : PySem.W.findIn K (.ref C_InvalidChange) "__init__" = some (some (.ref f_InvalidChange_init))
  t_InvalidChange : PySem.W.typeIn K (.ref f_InvalidChange_init) = some (.type "function")
  e_InvalidChange_InvalidChange : PySem.W.exmOne K (.ref C_InvalidChange) (.ref C_InvalidChange) = some true
  t_LONGEST_NAME : Tok
  c_LONGEST_NAME : mg "LONGEST_NAME" = some (.int 8 t_LONGEST_NAME)
  z_isinstance : mg "isinstance" = none
  z_int : mg "int" = none
  z_bool : mg "bool" = none
  z_all : mg "all" = none
  z_str : mg "str" = none
  z_len : mg "len" = none
  z_tuple : mg "tuple" = none
  z_set : mg "set" = none
  z_max : mg "max" = none
  z_list : mg "list" = none
  z_range : mg "range" = none
  z_min : mg "min" = none

section
variable {P : Program} {w : World} {K : PySem.W.Frag} {mg : Str → Option Value} {base : Heap}
theorem ok_law_cell (T : Txt K mg) : FnOk P w K mg base CX0 1 T.f_law_cell T.fd_law_cell ["_law_script", "_law_k"] (sp_law_cell K) := by
  refine T.F_law_cell.ok sc_law_cell (fun vs H Q E h => ?_) (fun cdv A outer s H vs Q E hr h => ?_)
  · obtain ⟨a, ns, k, rfl, _⟩ := h
    rfl
  · obtain ⟨a, ns, k, rfl, hS, hk, kq⟩ := h
    refine ⟨_, (pss_cons (ps_if (pt_cmpR op_lt (pv 1) (pe_callB (id := "len") call_len_seq (by rfl) T.z_len (by decide +kernel) (pa_cons (pv 0) pa_nil)) (nomark _)) (pss_one (ps_ret (pe_ix ix_list (pv 0) (pv 1) (fun _ _ => rfl)))) pss_nil)
        (pss_one (ps_ret (pe_op op_add (pe_op op_mul pe_int (pv 1)) pe_int)))), ?_⟩
    refine ⟨_, rfl, _, rfl, a, _, rfl, .inl hS, _, _, rfl, rfl, _, rfl, ?_⟩
    refine ite2 (fun c => ?_) (fun c => ?_)
    · have c' := of_decide_eq_true c
      rw [List.length_map] at c'
      obtain ⟨j, rfl⟩ := Int.eq_ofNat_of_zero_le hk
      have hj : j < ns.length := by omega
      refine ⟨_, rfl, _, rfl, a, _, _, .int ns[j], rfl, rfl, hS, atI_nat (by rw [List.getElem?_map, List.getElem?_eq_getElem hj]; rfl), kq _⟩
    · refine ⟨_, rfl, _, _, rfl, rfl, .inl ⟨by decide, by decide⟩, _, _, rfl, rfl, kq _⟩
theorem ok_law_box (T : Txt K mg) : FnOk P w K mg base CX0 1 T.f_law_box T.fd_law_box ["_law_cell_here"] sp_law_box := by
  refine T.F_law_box.ok sc_law_box (fun vs H Q E h => ?_) (fun cdv A outer s H vs Q E hr h => ?_)
  · obtain ⟨z, rfl, _⟩ := h
    rfl
  · obtain ⟨z, rfl, k⟩ := h
    refine ⟨_, (pss_one (ps_ret (pe_lst (pa_cons (pe_callB (id := "max") (call_max2 rfl) (by rfl) T.z_max (by decide +kernel) (pa_cons pe_int (pa_cons (pe_op op_sub (pv 0) (pe_op op_pow pe_int pe_int)) pa_nil))) (pa_cons (pe_op op_mod (pv 0) pe_int) (pa_cons pe_int pa_nil)))))), ?_⟩
    refine ⟨_, rfl, _, _, rfl, rfl, ⟨by decide, by decide, by decide⟩, _, _, rfl, rfl, _, _, rfl, ?_⟩
    refine ⟨_, rfl, _, _, rfl, rfl, (by show (0 : Int) < 2147483629; decide), (by show 3 ≤ sizeLine; decide), fun p hp => ?_⟩
    refine k p _ hp ⟨_, _, _, upd_same, ?_, Int.emod_nonneg _ (by decide), Int.emod_lt_of_pos _ (by decide), by decide, by decide⟩
    by_cases c : z - 10 ^ (18 : Int).toNat > 0
    · rw [if_pos c]
      omega
    · rw [if_neg c]
      exact Int.le_refl _
theorem ok_law_take (T : Txt K mg) : FnOk P w K mg base CX0 1 T.f_law_take T.fd_law_take ["_law_box_here", "_law_many"] sp_law_take := by
  refine T.F_law_take.ok sc_law_take (fun vs H Q E h => ?_) (fun cdv A outer s H vs Q E hr h => ?_)
  · obtain ⟨H0, p, n, m, rfl, _⟩ := h
    rfl
  · obtain ⟨H0, p, n, m, rfl, B, hn, hm, hm2, k⟩ := h
    obtain ⟨d, s, c, hp, hd, hs, hs2, hc, hc2⟩ := B.box
    have hL : SqL K H p [.int d, .int s, .int c] := SqL.of hp
    have nx : ∀ (d' c' : Int), 0 ≤ d' → 0 ≤ c' → c' ≤ c + 1 → BoxIn H0 (upd H p (.lst [.int d', .int s, .int c'])) p (n + 1) := fun d' c' h1 h2 h3 =>
      ⟨fun x u e => by rw [upd_ne (ne_of_none e B.free)]; exact B.same _ _ e, B.free, d', s, c', upd_same, h1, hs, hs2, h2, by omega⟩
    refine ⟨_, (pss_cons (ps_if (pt_cmpR op_gt (pe_ix ix_list (pv 0) pe_int (fun _ _ => rfl)) pe_int (nomark _)) (pss_cons (ps_set (i := 2) sc_law_take.nd rfl (Or.inl rfl) (pe_op op_mod (pe_ix ix_list (pv 0) pe_int (fun _ _ => rfl)) (pv 1)))
        (pss_cons (ps_asg (pe_op op_fdiv (pe_ix ix_list (pv 0) pe_int (fun _ _ => rfl)) (pv 1)) (pg_sub (pv 0) pe_int set_list))
        (pss_one (ps_ret (pv 2))))) pss_nil)
        (pss_cons (ps_asg (pe_op op_add (pe_ix ix_list (pv 0) pe_int (fun _ _ => rfl)) pe_int) (pg_sub (pv 0) pe_int set_list))
        (pss_cons (ps_set (i := 3) sc_law_take.nd rfl (Or.inl rfl) (pe_op op_mod (pe_op op_pow (pe_op op_add (pe_op op_add (pe_ix ix_list (pv 0) pe_int (fun _ _ => rfl)) (pe_op op_mul pe_int (pe_ix ix_list (pv 0) pe_int (fun _ _ => rfl)))) pe_int) pe_int) pe_int))
        (pss_cons (ps_set (i := 3) sc_law_take.nd rfl (Or.inl rfl) (pe_op op_mod (pe_op op_pow (pe_op op_add (pv 3) (pe_op op_mul pe_int (pe_ix ix_list (pv 0) pe_int (fun _ _ => rfl)))) pe_int) pe_int))
        (pss_one (ps_ret (pe_op op_mod (pe_op op_fdiv (pv 3) pe_int) (pv 1)))))))), ?_⟩
    refine ⟨_, rfl, p, _, _, _, rfl, rfl, hL, atI_nat (j := 0) rfl, _, _, rfl, rfl, _, rfl, ?_⟩
    refine ite2 (fun c0 => ?_) (fun c0 => ?_)
    · have c0' := of_decide_eq_true c0
      refine ⟨_, rfl, p, _, _, _, rfl, rfl, hL, atI_nat (j := 0) rfl, _, rfl, _, _, rfl, rfl, hm, ?_⟩
      refine ⟨_, rfl, p, _, _, _, rfl, rfl, hL, atI_nat (j := 0) rfl, _, rfl, _, _, rfl, rfl, ⟨hm, by omega⟩, ?_⟩
      refine ⟨_, rfl, p, _, _, 0, rfl, rfl, hp, rfl, ?_⟩
      refine ⟨_, rfl, k _ _ (Int.emod_nonneg _ (by omega)) (Int.emod_lt_of_pos _ hm) (nx _ _ (Int.ediv_nonneg hd (by omega)) hc (by omega))⟩
    · refine ⟨_, rfl, p, _, _, _, rfl, rfl, hL, atI_nat (j := 2) rfl, _, _, rfl, rfl, ?_⟩
      refine ⟨_, rfl, p, _, _, 2, rfl, rfl, hp, rfl, ?_⟩
      have hL' : SqL K (upd H p (.lst [.int d, .int s, .int (c + 1)])) p [.int d, .int s, .int (c + 1)] := SqL.of upd_same
      refine ⟨_, rfl, p, _, _, _, rfl, rfl, hL', atI_nat (j := 1) rfl, _, rfl, p, _, _, _, rfl, rfl, hL', atI_nat (j := 2) rfl, _, _, rfl, rfl, .inl ⟨by decide, by decide⟩, _, _, rfl, rfl, _, _, rfl, rfl, _, _, rfl, rfl, ⟨by decide, by decide, by omega⟩, _, _, rfl, rfl, (by show (0 : Int) < 2147483647; decide), ?_⟩
      have h1 := Int.emod_nonneg ((s + 7919 * (c + 1) + 43) ^ (5 : Int).toNat) (show (2147483647 : Int) ≠ 0 by decide)
      have h2 := Int.emod_lt_of_pos ((s + 7919 * (c + 1) + 43) ^ (5 : Int).toNat) (show (0 : Int) < 2147483647 by decide)
      refine ⟨_, rfl, _, rfl, p, _, _, _, rfl, rfl, hL', atI_nat (j := 2) rfl, _, _, rfl, rfl, .inl ⟨by decide, by decide⟩, _, _, rfl, rfl, _, _, rfl, rfl, ⟨by decide, by decide, by omega⟩, _, _, rfl, rfl, (by show (0 : Int) < 2147483587; decide), ?_⟩
      refine ⟨_, rfl, _, _, rfl, rfl, ⟨by decide, by decide⟩, _, rfl, _, _, rfl, rfl, hm, ?_⟩
      exact k _ _ (Int.emod_nonneg _ (by omega)) (Int.emod_lt_of_pos _ hm) (nx _ _ hd (by omega) (by omega))
theorem ok_law_mixed (T : Txt K mg) : FnOk P w K mg base CX0 2 T.f_law_mixed T.fd_law_mixed ["_law_box_here", "_law_some"] sp_mixed := by
  refine T.F_law_mixed.ok sc_law_mixed (fun vs H Q E h => ?_) (fun cdv A outer s H vs Q E hr h => ?_)
  · obtain ⟨H0, p, l, n, xs, rfl, _⟩ := h
    rfl
  · obtain ⟨H0, p, l, n, xs, rfl, B, hl, hz, hn, k⟩ := h
    refine ⟨_, (pss_cons (ps_set (i := 2) sc_law_mixed.nd rfl (Or.inr rfl) (pe_callTy (T := "list") call_list_of (by rfl) T.z_list (by decide +kernel) (pa_cons (pv 1) pa_nil)))
        (pss_one (ps_ret (pe_lc (own := [("_law_k", 3)]) (g := gName 3) (tt := tYes) rfl sc_law_mixed.nd (pi_range1 rfl T.z_range (pa_cons (pe_callB (id := "len") call_len_seq (by rfl) T.z_len (by decide +kernel) (pa_cons (pv 1) pa_nil)) pa_nil)) (blkOk_by (own := [("_law_k", 3)]) (N := ["_law_box_here", "_law_some", "_law_left", "_law_k"]) (sc := defScope s_law_mixed) (by decide +kernel)) (fun _ _ _ _ _ => (pg_name (i := 3) sc_law_mixed.nd rfl (Or.inl rfl))) (fun _ _ _ _ _ => pts_nil) (fun _ _ _ _ _ => (show PE _ _ (tBM K "list" rPopAt _ _) from (pe_bm PySem.F.plainAttrs_list PySem.F.slot_list_pop PySem.F.type_list_pop (r := rPopAt) mt_popAt (pv 2) (pa_cons (pe_call (ok_law_take T) hr rfl T.m_law_take T.F_law_take.kp T.b_law_take .nil pass0 (pa_cons (pv 0) (pa_cons (pe_callB (id := "len") (r := fun xs H Q => ∃ p ys, xs = [.ref p] ∧ (SqL K H p ys ∨ SqT K H p ys) ∧ Q (.int ys.length) H) call_len_seq (by rfl) T.z_len (by decide +kernel) (pa_cons (pv 2) pa_nil)) pa_nil))) pa_nil)))))))), ?_⟩
    have hS : SqL K H l xs := SqL.of hl
    have pn : ∀ {H' : Hp} {m : Nat}, BoxIn H0 H' p m → ∀ {t : Addr}, H' t = none → t ≠ p := fun {H' m} b {t} h => by
      obtain ⟨_, _, _, hp, _⟩ := b.box
      exact (ne_of_none hp h).symm
    refine ⟨_, rfl, l, xs, rfl, .inl hS, fun t ht => ?_⟩
    have htp := pn B ht
    have nlt : l ≠ t := ne_of_none hl ht
    have B1 : BoxIn H0 (upd H t (.lst xs)) p n := B.keep (same_new ht)
    refine ⟨_, rfl, l, xs, rfl, .inl (SqL.of (by rw [upd_ne nlt]; exact hl)), xs.length, rfl, by omega, by omega, fun D hD => ?_⟩
    have hDp := pn B1 hD
    have hDt : D ≠ t := fun e => by
      rw [e, upd_same] at hD
      cases hD
    have hD0 : H0 D = none := B1.same.free hD
    have ht0 : H0 t = none := B.same.free ht
    refine lc_range (fun i H2 => ∃ acc left : List V, H2 D = some (.lst acc) ∧ acc.length = i ∧ H2 t = some (.lst left) ∧ (acc ++ left).Perm xs ∧ BoxIn H0 H2 p (n + i)) ⟨[], xs, upd_same, rfl, by rw [upd_ne hDt.symm, upd_same], List.Perm.refl _, B1.mut hDp hD0⟩ ?_ ?_
    · rintro i H2 hi ⟨acc, left, hl2, hy, ht2, hpm, B2⟩
      have hll : left.length = xs.length - i := by
        have := hpm.length_eq
        rw [List.length_append] at this
        omega
      have B2' := B2.all
      refine ⟨rfl, tyes ⟨_, rfl, .inl ⟨rfl, _, .inl (.inl ht2)⟩, _, rfl, _, rfl, t, left, rfl, .inl (SqL.of ht2), but H2 p, p, _, _, rfl, B2'.1, by omega, by omega, by omega, fun z H3 z0 z1 B3 => ?_⟩⟩
      obtain ⟨j, rfl⟩ := Int.eq_ofNat_of_zero_le z0
      have hj : j < left.length := by omega
      have ht3 : H3 t = some (.lst left) := B3.same _ _ (by rw [but_ne htp]; exact ht2)
      have hl3 : H3 D = some (.lst acc) := B3.same _ _ (by rw [but_ne hDp]; exact hl2)
      have hsi : seqIndex? (j : Int) left.length = some j := by
        unfold seqIndex?
        have e1 : ¬ ((j : Int) < 0) := by omega
        simp only [e1, if_false]
        rw [if_pos (by simp; omega)]
        simp
      refine ⟨t, left, (j : Int), j, left[j], rfl, rfl, ht3, by omega, by omega, hsi, List.getElem?_eq_getElem hj, acc, by rw [upd_ne hDt]; exact hl3, Nat.lt_of_lt_of_le (show acc.length < 200 by omega) (by decide), acc ++ [left[j]], left.eraseIdx j, upd_same, by simp [hy], by rw [upd_ne hDt.symm, upd_same], ?_, ?_⟩
      · refine List.Perm.trans ?_ hpm
        rw [List.append_assoc]
        refine List.Perm.append_left _ ?_
        rw [List.eraseIdx_eq_take_drop_succ]
        have e : left = left.take j ++ left[j] :: left.drop (j + 1) := by
          rw [List.getElem_cons_drop, List.take_append_drop]
        have q : (left.take j ++ left[j] :: left.drop (j + 1)).Perm (left[j] :: (left.take j ++ left.drop (j + 1))) := List.perm_middle
        exact q.symm.trans (List.Perm.of_eq e.symm)
      · exact ((B3.low B2'.2).mut htp ht0).mut hDp hD0
    · rintro H2 ⟨acc, left, hl2, hy, ht2, hpm, B2⟩
      have e : left = [] := by
        have := hpm.length_eq
        rw [List.length_append] at this
        exact List.length_eq_zero_iff.mp (by omega)
      rw [e, List.append_nil] at hpm
      exact k D H2 acc B2.same hD0 hDp hl2 hpm B2
theorem ok_law_names (T : Txt K mg) : FnOk P w K mg base CX0 3 T.f_law_names T.fd_law_names ["_law_box_here", "_law_many"] sp_names := by
  refine T.F_law_names.ok sc_law_names (fun vs H Q E h => ?_) (fun cdv A outer s H vs Q E hr h => ?_)
  · obtain ⟨H0, p, n, m, rfl, _⟩ := h
    rfl
  · obtain ⟨H0, p, n, m, rfl, B, hm, hn, k⟩ := h
    refine ⟨_, (pss_cons (ps_set (i := 2) sc_law_names.nd rfl (Or.inl rfl) pe_str)
        (pss_cons (ps_if (pt_cmpR op_eq (pe_call (ok_law_take T) (hr.mono (by decide)) rfl T.m_law_take T.F_law_take.kp T.b_law_take .nil pass0 (pa_cons (pv 0) (pa_cons pe_int pa_nil))) pe_int (nomark _)) (pss_cons (ps_set (i := 3) sc_law_names.nd rfl (Or.inl rfl) (pe_lst (pa_cons pe_str (pa_cons pe_str (pa_cons pe_str (pa_cons pe_str (pa_cons pe_str (pa_cons pe_str (pa_cons pe_str (pa_cons pe_str (pa_cons pe_str (pa_cons pe_str (pa_cons pe_str (pa_cons pe_str (pa_cons pe_str pa_nil)))))))))))))))
        (pss_one (ps_ret (pe_slice sl_list (pe_call (ok_law_mixed T) hr rfl T.m_law_mixed T.F_law_mixed.kp T.b_law_mixed .nil pass0 (pa_cons (pv 0) (pa_cons (pv 3) pa_nil))) po_none (po_some (pv 1)))))) pss_nil)
        (pss_cons (ps_set (i := 4) sc_law_names.nd rfl (Or.inl rfl) (pe_ix ix_list (pe_lst (pa_cons pe_str (pa_cons pe_str (pa_cons pe_str (pa_cons pe_str (pa_cons pe_str (pa_cons pe_str pa_nil))))))) (pe_call (ok_law_take T) (hr.mono (by decide)) rfl T.m_law_take T.F_law_take.kp T.b_law_take .nil pass0 (pa_cons (pv 0) (pa_cons pe_int pa_nil))) (fun _ _ => rfl)))
        (pss_cons (ps_par3 (i := 5) (j := 6) (l := 7) (by rfl) sc_law_names.nd rfl rfl rfl (by decide) (by decide) (by decide) rfl rfl rfl (pa_cons (pe_call (ok_law_take T) (hr.mono (by decide)) rfl T.m_law_take T.F_law_take.kp T.b_law_take .nil pass0 (pa_cons (pv 0) (pa_cons pe_int pa_nil))) (pa_cons (pe_ix ix_list (pe_lst (pa_cons pe_int (pa_cons pe_int (pa_cons pe_int (pa_cons pe_int (pa_cons pe_int (pa_cons pe_int pa_nil))))))) (pe_call (ok_law_take T) (hr.mono (by decide)) rfl T.m_law_take T.F_law_take.kp T.b_law_take .nil pass0 (pa_cons (pv 0) (pa_cons pe_int pa_nil))) (fun _ _ => rfl)) (pa_cons (pe_call (ok_law_take T) (hr.mono (by decide)) rfl T.m_law_take T.F_law_take.kp T.b_law_take .nil pass0 (pa_cons (pv 0) (pa_cons pe_int pa_nil))) pa_nil))) (by rfl))
        (pss_cons (ps_set (i := 8) sc_law_names.nd rfl (Or.inl rfl) (pe_lst pa_nil))
        (pss_cons (ps_for PassesOwn.never rfl (pi_range1 rfl T.z_range (pa_cons (pv 1) pa_nil)) (pg_name (i := 9) sc_law_names.nd rfl (Or.inl rfl))
          (pss_cons (ps_set (i := 10) sc_law_names.nd rfl (Or.inl rfl) (pe_ix ix_str (pv 2) (pe_op op_mod (pe_op op_add (pv 5) (pe_op op_mul (pv 6) (pv 9))) pe_int) (fun _ _ => rfl)))
        (pss_cons (ps_set (i := 11) sc_law_names.nd rfl (Or.inl rfl) (pe_ix ix_list (pe_lst (pa_cons (pe_op op_add_str (pv 4) (pv 10)) (pa_cons (pe_op op_add_str (pv 10) (pv 4)) (pa_cons (pv 10) pa_nil)))) (pe_ifExp (pt_cmpR op_gt (pv 9) pe_int (nomark _)) (pv 7) pe_int) (fun _ _ => rfl)))
        (pss_one (ps_expr (pe_bm PySem.F.plainAttrs_list PySem.F.slot_list_append PySem.F.type_list_append mt_append (pv 8) (pa_cons (pe_ifExp (pt_cmpR op_eq (pv 11) pe_str (nomark _)) pe_str (pv 11)) pa_nil)))))))
        (pss_one (ps_ret (pv 8))))))))), ?_⟩
    have pn : ∀ {H0 H' : Hp} {m : Nat}, BoxIn H0 H' p m → ∀ {t : Addr}, H' t = none → t ≠ p := fun {H0 H' m} b {t} h => by
      obtain ⟨_, _, _, hp, _⟩ := b.box
      exact (ne_of_none hp h).symm
    refine ⟨_, rfl, H0, p, n, 7, rfl, B, by omega, by decide, by decide, fun z1 H1 z10 z11 B1 => ⟨rfl, _, rfl, ?_⟩⟩
    refine ite2 (fun c => ?_) (fun c => ?_)
    · refine ⟨(by show 13 ≤ sizeLine; decide), fun l hl => ?_⟩
      have B2 := B1.keep (same_new (o := .lst ((["begin", "empty", "rest", "step", "end", "look", "old", "new", "put", "part", "move", "split", "lock"] : List Str).map V.str)) hl)
      have hlp := pn B1 hl
      refine ⟨_, rfl, _, rfl, H0, p, l, _, (["begin", "empty", "rest", "step", "end", "look", "old", "new", "put", "part", "move", "split", "lock"] : List Str).map V.str, rfl, B2, upd_same, by decide, by show n + 1 + 13 < 1000000; omega, fun q H3 ys s3 hq0 hqp hq3 hpm B3 => ?_⟩
      obtain ⟨ss, rfl, hss⟩ := strs_of (xs := ys) (W := ["begin", "empty", "rest", "step", "end", "look", "old", "new", "put", "part", "move", "split", "lock"]) fun y hy => by
        obtain ⟨s, hs, e⟩ := List.mem_map.mp (hpm.mem_iff.mp hy)
        exact ⟨s, hs, e.symm⟩
      have hlen : ss.length = 13 := by
        have := hpm.length_eq
        rw [List.length_map, List.length_map] at this
        exact this
      refine ⟨_, rfl, m, rfl, q, _, rfl, SqL.of hq3, fun r hr => ?_⟩
      have e : cutV (ss.map V.str) none (some (m : Int)) = (ss.take m).map V.str := by
        unfold cutV
        rw [HT.sIx_none, HT.sIx_nat, List.length_map, hlen, List.drop_zero, Nat.sub_zero, List.map_take, Nat.min_eq_left hm]
      rw [e]
      have all : ∀ s ∈ (["begin", "empty", "rest", "step", "end", "look", "old", "new", "put", "part", "move", "split", "lock"] : List Str), sOk 16 s := by
        unfold sOk
        decide +kernel
      refine k r _ (ss.take m) (s3.trans (same_new hr)) (s3.free hr) (pn B3 hr) upd_same ?_ (fun s hs => all s (hss s (List.mem_of_mem_take hs))) ((B3.keep (same_new hr)).mono (by show n + 1 + 13 ≤ n + 40; omega))
      rw [List.length_take, hlen]
      omega
    · refine ⟨(by show 6 ≤ sizeLine; decide), fun l hl => ?_⟩
      have B2 := B1.new (o := .lst ((["", "a", "tabl", "rest", "part", "zzzzzzz"] : List Str).map V.str)) hl
      refine ⟨_, rfl, _, p, _, 6, rfl, B2.1, by omega, by decide, by decide, fun z2 H2 z20 z21 B3 => ?_⟩
      obtain ⟨v, hv, hm1⟩ := atI_in (xs := (["", "a", "tabl", "rest", "part", "zzzzzzz"] : List Str).map V.str) z20 z21
      refine ⟨l, _, z2, v, rfl, rfl, SqL.of (B3.same _ _ upd_same), hv, ?_⟩
      obtain ⟨stem, hst, rfl⟩ := List.mem_map.mp hm1
      have hstem : sOk 7 stem := by
        have all : ∀ s ∈ (["", "a", "tabl", "rest", "part", "zzzzzzz"] : List Str), sOk 7 s := by
          unfold sOk
          decide +kernel
        exact all _ hst
      have B4 := B3.low B2.2
      refine ⟨_, rfl, H0, p, _, 26, rfl, B4, by omega, by decide, by decide, fun zf H3 zf0 zf1 B5 => ?_⟩
      refine ⟨(by show 6 ≤ sizeLine; decide), fun l2 hl2 => ?_⟩
      have B6 := B5.new (o := .lst ([1, 3, 5, 7, 9, 11].map V.int)) hl2
      refine ⟨_, rfl, _, p, _, 6, rfl, B6.1, by omega, by decide, by decide, fun z3 H4 z30 z31 B7 => ?_⟩
      obtain ⟨v3, hv3, hm3⟩ := atI_in (xs := ([1, 3, 5, 7, 9, 11] : List Int).map V.int) z30 z31
      refine ⟨l2, _, z3, v3, rfl, rfl, SqL.of (B7.same _ _ upd_same), hv3, ?_⟩
      obtain ⟨stp, hstp, rfl⟩ := List.mem_map.mp hm3
      have B8 := B7.low B6.2
      refine ⟨_, rfl, H0, p, _, 3, rfl, B8, by omega, by decide, by decide, fun zw H5 zw0 zw1 B9 => ⟨_, _, _, rfl, ?_⟩⟩
      refine ⟨(by show 0 ≤ sizeLine; decide), fun f hf => ?_⟩
      have hfp := pn B9 hf
      have hf0 : H0 f = none := B9.same.free hf
      refine ⟨_, rfl, m, rfl, ?_, ?_, for_range (fun i σ H' => ∃ (v3 v9 v10 v11 : Option V) (ss : List Str), σ = [some (.ref p), some (.int m), some (.str "abcdefghijklmnopqrstuvwxyz"), v3, some (.str stem), some (.int zf), some (.int stp), some (.int zw), some (.ref f), v9, v10, v11] ∧ H' f = some (.lst (ss.map V.str)) ∧ ss.length = i ∧ (∀ s ∈ ss, sOk 16 s) ∧ BoxIn H0 H' p (n + 5)) ⟨_, none, none, none, [], rfl, upd_same, rfl, (fun s h => by cases h), B9.mut hfp hf0⟩ ?_ ?_⟩
      · omega
      · omega
      · rintro i σ H6 hi ⟨v3, v9, v10, v11, ss, rfl, hff, hlen, hok, C⟩
        have hstp2 : 0 ≤ stp ∧ stp ≤ 11 := by
          have all : ∀ i ∈ ([1, 3, 5, 7, 9, 11] : List Int), 0 ≤ i ∧ i ≤ 11 := by decide
          exact all _ hstp
        refine ⟨_, rfl, _, rfl, _, rfl, _, rfl, _, _, rfl, rfl, .inl ⟨by omega, by omega⟩, _, _, rfl, rfl, _, _, rfl, rfl, (by show (0 : Int) < 26; decide), ?_⟩
        have e26 : ("abcdefghijklmnopqrstuvwxyz" : Str).cps.toList.length = 26 := by decide +kernel
        obtain ⟨ch, hch, hmc⟩ := atI_in (xs := ("abcdefghijklmnopqrstuvwxyz" : Str).cps.toList) (z := (zf + stp * (0 + (i : Int))) % 26) (Int.emod_nonneg _ (by decide)) (by rw [e26]; exact Int.emod_lt_of_pos _ (by decide))
        have hsg : sOk 1 (⟨#[ch]⟩ : Str) := by
          refine ⟨Nat.le_refl _, strOk_sign ?_⟩
          have all : ∀ c ∈ ("abcdefghijklmnopqrstuvwxyz" : Str).cps.toList, c < 0x110000 := by decide +kernel
          exact all _ hmc
        refine ⟨_, _, ch, rfl, rfl, by decide +kernel, hch, ?_⟩
        have l1 : stem.length + (⟨#[ch]⟩ : Str).length ≤ sizeLine := Nat.le_trans (Nat.add_le_add hstem.1 hsg.1) (by decide)
        have l2' : (⟨#[ch]⟩ : Str).length + stem.length ≤ sizeLine := Nat.le_trans (Nat.add_le_add hsg.1 hstem.1) (by decide)
        refine ⟨_, rfl, _, rfl, _, _, rfl, rfl, l1, _, rfl, _, rfl, _, _, rfl, rfl, l2', _, rfl, (by show 3 ≤ sizeLine; decide), fun l3 hl3 => ?_⟩
        have hfl3 : f ≠ l3 := ne_of_none hff hl3
        have C2 := C.keep (same_new (o := .lst [V.str (stem ++ ⟨#[ch]⟩), .str ((⟨#[ch]⟩ : Str) ++ stem), .str ⟨#[ch]⟩]) hl3)
        have pick : ∀ z : Int, 0 ≤ z → z < 3 → ∃ s : Str, atI [V.str (stem ++ ⟨#[ch]⟩), .str ((⟨#[ch]⟩ : Str) ++ stem), .str ⟨#[ch]⟩] z = some (.str s) ∧ sOk 16 s := fun z z0 z3 => by
          obtain ⟨v, hv, hm⟩ := atI_in (xs := [V.str (stem ++ ⟨#[ch]⟩), .str ((⟨#[ch]⟩ : Str) ++ stem), .str ⟨#[ch]⟩]) z0 z3
          simp only [List.mem_cons, List.not_mem_nil, or_false] at hm
          rcases hm with rfl | rfl | rfl
          · exact ⟨_, hv, (hstem.app hsg).mono (by decide)⟩
          · exact ⟨_, hv, (hsg.app hstem).mono (by decide)⟩
          · exact ⟨_, hv, hsg.mono (by decide)⟩
        have hff2 : upd H6 l3 (.lst [V.str (stem ++ ⟨#[ch]⟩), .str ((⟨#[ch]⟩ : Str) ++ stem), .str ⟨#[ch]⟩]) f = some (.lst (ss.map V.str)) := by rw [upd_ne hfl3]; exact hff
        have hsz : (ss.map V.str).length < sizeLine := by
          rw [List.length_map, hlen]
          exact Nat.lt_of_lt_of_le (show i < 100 by omega) (by decide)
        have nx : ∀ s : Str, sOk 16 s → upd (upd H6 l3 (.lst [V.str (stem ++ ⟨#[ch]⟩), .str ((⟨#[ch]⟩ : Str) ++ stem), .str ⟨#[ch]⟩])) f (.lst (ss.map V.str ++ [V.str s])) f = some (.lst ((ss ++ [s]).map V.str)) ∧ (ss ++ [s]).length = i + 1 ∧ (∀ x ∈ ss ++ [s], sOk 16 x) ∧
            BoxIn H0 (upd (upd H6 l3 (.lst [V.str (stem ++ ⟨#[ch]⟩), .str ((⟨#[ch]⟩ : Str) ++ stem), .str ⟨#[ch]⟩])) f (.lst (ss.map V.str ++ [V.str s]))) p (n + 5) := fun s hs => by
          refine ⟨by rw [upd_same, List.map_append]; rfl, by simp [hlen], fun x hx => ?_, C2.mut hfp hf0⟩
          rcases List.mem_append.mp hx with q | q
          · exact hok x q
          · rw [List.mem_singleton.mp q]
            exact hs
        refine ⟨_, rfl, _, _, rfl, rfl, _, rfl, ?_⟩
        refine ite2 (fun c => ?_) (fun c => ?_)
        · obtain ⟨nm, hnm, hok2⟩ := pick zw zw0 zw1
          refine ⟨_, rfl, l3, _, zw, _, rfl, rfl, SqL.of upd_same, hnm, ?_⟩
          refine ⟨_, rfl, .inl ⟨rfl, _, .inl (.inl hff2)⟩, _, rfl, rfl, _, rfl, ?_⟩
          refine ite2 (fun c => ?_) (fun c => ?_)
          · obtain ⟨n1, n2, n3, n4⟩ := nx "tables" (by unfold sOk; decide +kernel)
            exact ⟨f, _, _, rfl, rfl, hff2, hsz, _, _, _, _, _, rfl, n1, n2, n3, n4⟩
          · obtain ⟨n1, n2, n3, n4⟩ := nx nm hok2
            exact ⟨_, rfl, f, _, _, rfl, rfl, hff2, hsz, _, _, _, _, _, rfl, n1, n2, n3, n4⟩
        · obtain ⟨nm, hnm, hok2⟩ := pick 0 (by decide) (by decide)
          refine ⟨l3, _, 0, _, rfl, rfl, SqL.of upd_same, hnm, ?_⟩
          refine ⟨_, rfl, .inl ⟨rfl, _, .inl (.inl hff2)⟩, _, rfl, rfl, _, rfl, ?_⟩
          refine ite2 (fun c => ?_) (fun c => ?_)
          · obtain ⟨n1, n2, n3, n4⟩ := nx "tables" (by unfold sOk; decide +kernel)
            exact ⟨f, _, _, rfl, rfl, hff2, hsz, _, _, _, _, _, rfl, n1, n2, n3, n4⟩
          · obtain ⟨n1, n2, n3, n4⟩ := nx nm hok2
            exact ⟨_, rfl, f, _, _, rfl, rfl, hff2, hsz, _, _, _, _, _, rfl, n1, n2, n3, n4⟩
      · rintro σ H6 ⟨v3, v9, v10, v11, ss, rfl, hff, hlen, hok, C⟩
        refine ⟨_, rfl, ?_⟩
        exact k f H6 ss C.same hf0 hfp hff (by rw [hlen]; simp) hok (C.mono (by omega))
theorem ok_is_integer (T : Txt K mg) : FnOk P w K mg base CX0 1 T.f_is_integer T.fd_is_integer ["value"] (sp_vO K intO) := by
  refine T.F_is_integer.ok sc_is_integer (fun vs H Q E h => ?_) (fun cdv A outer s H vs Q E hr h => ?_)
  · obtain ⟨v, o, rfl, _⟩ := h
    rfl
  · obtain ⟨v, o, rfl, ty, _, k⟩ := h
    refine ⟨_, (pss_one (ps_ret (pe_and (pe_callB (id := "isinstance") call_isi (by rfl) T.z_isinstance (by decide +kernel) (pa_cons (pv 0) (pa_cons (pe_bltn (v := .ty "int") (u := .type "int") (by rfl) T.z_int (by decide +kernel) rfl) pa_nil))) (pe_one (pe_not (pe_callB (id := "isinstance") call_isi (by rfl) T.z_isinstance (by decide +kernel) (pa_cons (pv 0) (pa_cons (pe_bltn (v := .ty "bool") (u := .type "bool") (by rfl) T.z_bool (by decide +kernel) rfl) pa_nil)))))))), ?_⟩
    refine ⟨_, rfl, _, _, _, _, _, rfl, .ty _, ty, kit_o o (.inl rfl), _, rfl, ?_⟩
    unfold intO at k
    cases e : isT "int" o with
    | true =>
      rw [e] at k
      exact iteT ⟨_, rfl, _, _, _, _, _, rfl, .ty _, ty, kit_o o (.inr (.inl rfl)), _, rfl, k⟩
    | false =>
      rw [e] at k
      exact iteF k
theorem ok_is_limit (T : Txt K mg) : FnOk P w K mg base CX0 2 T.f_is_limit T.fd_is_limit ["value"] (sp_vO K limO) := by
  refine T.F_is_limit.ok sc_is_limit (fun vs H Q E h => ?_) (fun cdv A outer s H vs Q E hr h => ?_)
  · obtain ⟨v, o, rfl, _⟩ := h
    rfl
  · obtain ⟨v, o, rfl, ty, hn, k⟩ := h
    refine ⟨_, (pss_one (ps_ret (pe_or (pe_cmpR op_isN (pv 0) pe_non (nomark _)) (pe_one (pe_call (ok_is_integer T) hr rfl T.m_is_integer T.F_is_integer.kp T.b_is_integer .nil pass0 (pa_cons (pv 0) pa_nil)))))), ?_⟩
    refine ⟨_, rfl, rfl, _, rfl, ?_⟩
    unfold limO at k
    rw [hn]
    cases e : nonO o with
    | true =>
      rw [e] at k
      exact iteT k
    | false =>
      rw [e] at k
      exact iteF ⟨_, rfl, v, o, rfl, ty, hn, k⟩
theorem ok_is_span (T : Txt K mg) : FnOk P w K mg base CX0 3 T.f_is_span T.fd_is_span ["value"] (sp_v1 K spanO) := by
  refine T.F_is_span.ok sc_is_span (fun vs H Q E h => ?_) (fun cdv A outer s H vs Q E hr h => ?_)
  · obtain ⟨v, o, rfl, _⟩ := h
    rfl
  · obtain ⟨v, o, rfl, hv, k⟩ := h
    have ty := hv.ty
    have k := k H (Same.refl H)
    refine ⟨_, (pss_cons (ps_if (PW.pt (pw_or (pt_not (pt_val (pe_callB (id := "isinstance") call_isi (by rfl) T.z_isinstance (by decide +kernel) (pa_cons (pv 0) (pa_cons (pe_bltn (v := .ty "tuple") (u := .type "tuple") (by rfl) T.z_tuple (by decide +kernel) rfl) pa_nil))))) (pw_or1 (pt_cmpR op_ne (pe_callB (id := "len") call_len_seq (by rfl) T.z_len (by decide +kernel) (pa_cons (pv 0) pa_nil)) pe_int (nomark _))))) (pss_one (ps_ret pe_bl)) pss_nil)
        (pss_cons (ps_asg (pv 0) (pg_tup rfl (pgs_cons (pg_name (i := 1) sc_is_span.nd rfl (Or.inl rfl)) (pgs_cons (pg_name (i := 2) sc_is_span.nd rfl (Or.inl rfl)) pgs_nil))))
        (pss_cons (ps_if (PW.pt (pw_or (pt_not (pt_val (pe_call (ok_is_limit T) hr rfl T.m_is_limit T.F_is_limit.kp T.b_is_limit .nil pass0 (pa_cons (pv 1) pa_nil)))) (pw_or1 (pt_not (pt_val (pe_call (ok_is_limit T) hr rfl T.m_is_limit T.F_is_limit.kp T.b_is_limit .nil pass0 (pa_cons (pv 2) pa_nil))))))) (pss_one (ps_ret pe_bl)) pss_nil)
        (pss_one (ps_ret (pe_or (pe_cmpR op_isN (pv 1) pe_non (nomark _)) (pe_or (pe_cmpR op_isN (pv 2) pe_non (nomark _)) (pe_one (pe_cmpR op_lt (pv 1) (pv 2) (nomark _)))))))))), ?_⟩
    refine ⟨_, rfl, _, _, _, _, _, rfl, .ty _, ty, kit_o o (.inr (.inr (.inr rfl))), _, rfl, ?_⟩
    cases e : isT "tuple" o with
    | false =>
      have e2 : spanO o = false := by
        rcases o with _ | d
        · rfl
        · cases d with
          | tuple s => cases e
          | _ => rfl
      rw [e2] at k
      exact iteT (iteT k)
    | true =>
      obtain ⟨a, xs, ds, rfl, rfl, hT, hD⟩ : ∃ a xs ds, v = .ref a ∧ o = some (.tuple ds) ∧ SqT K H a xs ∧ DpAll K H xs ds := by
        cases hv with
        | dat a _ c =>
          cases a with
          | tup h1 h2 => exact ⟨_, _, _, rfl, rfl, h1, h2⟩
          | _ => cases e
        | dic a => cases e
      have hlen := dpAll_len hD
      refine iteF ⟨_, rfl, _, _, rfl, .inr hT, rfl, _, rfl, ?_⟩
      show (if (!decide (V.int (xs.length : Int) = V.int 2)) = true then _ else _)
      rw [dec_int]
      by_cases e2 : xs.length = 2
      · have e3 : (((xs.length : Nat) : Int) == 2) = true := by rw [e2]; rfl
        rw [e3]
        refine iteF ?_
        obtain ⟨x, y, d, d2, rfl, rfl, h1, h2⟩ := dp_two hD e2
        have t1 := dp_vO h1
        have t2 := dp_vO h2
        refine ⟨_, rfl, a, _, rfl, hT, rfl, _, _, rfl, _, _, rfl, rfl, ?_⟩
        have k : Q (.bl (limO (some d) && (limO (some d2) && ltO d d2))) H := k
        refine ⟨_, rfl, _, some d, rfl, t1.1, t1.2, _, rfl, ?_⟩
        cases l1 : limO (some d) with
        | false =>
          rw [l1] at k
          exact iteT (iteT k)
        | true =>
          rw [l1] at k
          refine iteF ⟨_, rfl, _, some d2, rfl, t2.1, t2.2, _, rfl, ?_⟩
          cases l2 : limO (some d2) with
          | false =>
            rw [l2] at k
            exact iteT k
          | true =>
            rw [l2] at k
            refine iteF ⟨_, rfl, rfl, _, rfl, ?_⟩
            have k : Q (.bl (ltO d d2)) H := k
            cases h1 with
            | non => exact iteT k
            | int i =>
              refine iteF ⟨_, rfl, rfl, _, rfl, ?_⟩
              cases h2 with
              | non => exact iteT k
              | int j => exact iteF ⟨_, rfl, _, rfl, _, _, rfl, rfl, k⟩
              | _ => cases l2
            | _ => cases l1
      · have e3 : (((xs.length : Nat) : Int) == 2) = false := by
          rw [beq_eq_false_iff_ne]
          omega
        rw [e3]
        have e4 : spanO (some (.tuple ds)) = false := spanO_no fun q => e2 (hlen.trans q)
        rw [e4] at k
        exact iteT k
theorem ok_is_name (T : Txt K mg) : FnOk P w K mg base CX0 1 T.f_is_name T.fd_is_name ["value"] (sp_v1 K nameO) := by
  refine T.F_is_name.ok sc_is_name (fun vs H Q E h => ?_) (fun cdv A outer s H vs Q E hr h => ?_)
  · obtain ⟨v, o, rfl, _⟩ := h
    rfl
  · obtain ⟨v, o, rfl, hv, k⟩ := h
    have ty := hv.ty
    refine ⟨_, (pss_cons (ps_if (PW.pt (pw_or (pt_not (pt_val (pe_callB (id := "isinstance") call_isi (by rfl) T.z_isinstance (by decide +kernel) (pa_cons (pv 0) (pa_cons (pe_bltn (v := .ty "str") (u := .type "str") (by rfl) T.z_str (by decide +kernel) rfl) pa_nil))))) (pw_or1 (pt_cmpR op_eq (pv 0) pe_str (nomark _))))) (pss_one (ps_ret pe_bl)) pss_nil)
        (pss_one (ps_ret (pe_and (pe_chain op_le op_le pe_int (pe_callB (id := "len") call_len_str (by rfl) T.z_len (by decide +kernel) (pa_cons (pv 0) pa_nil)) (pe_glob (v := .int 8) rfl T.c_LONGEST_NAME ⟨_, rfl⟩)) (pe_one (pe_callB (id := "all") (cr_all rfl) (by rfl) T.z_all (by decide +kernel) (pa_cons (pe_lc (own := [("sign", 1)]) (g := gName 1) (tt := tYes) rfl sc_is_name.nd (pi_str (pv 0)) (blkOk_by (own := [("sign", 1)]) (N := ["value", "sign"]) (sc := defScope s_is_name) (by decide +kernel)) (fun _ _ _ _ _ => (pg_name (i := 1) sc_is_name.nd rfl (Or.inl rfl))) (fun _ _ _ _ _ => pts_nil) (fun _ _ _ _ _ => (pe_chain op_le_str op_le_str pe_str (pv 1) pe_str))) pa_nil))))))), ?_⟩
    refine ⟨_, rfl, _, _, _, _, _, rfl, .ty _, ty, kit_o o (.inr (.inr (.inl rfl))), _, rfl, ?_⟩
    cases e : isT "str" o with
    | false =>
      have e2 : nameO o = false := by
        rcases o with _ | d
        · rfl
        · cases d with
          | str s => cases e
          | _ => rfl
      rw [e2] at k
      exact iteT (iteT (k H (Same.refl H)))
    | true =>
      obtain ⟨s, rfl, rfl, hs⟩ : ∃ s, v = .str s ∧ o = some (.str s) ∧ s.length ≤ 1000 := by
        cases hv with
        | dat a _ c =>
          cases a with
          | str s => exact ⟨s, rfl, rfl, c s rfl⟩
          | _ => cases e
        | dic a => cases e
      have hz : s.length ≤ sizeLine := Nat.le_trans hs (by decide)
      refine iteF ⟨_, rfl, rfl, _, rfl, ?_⟩
      have k : ∀ H', Same H H' → Q (.bl (nameS s)) H' := k
      unfold nameS at k
      rw [dec_str]
      cases e1 : s == ("table" : Str) with
      | true =>
        rw [e1] at k
        exact iteT (k H (Same.refl H))
      | false =>
        rw [e1] at k
        refine iteF ?_
        have k : ∀ H', Same H H' → Q (.bl (decide ((1 : Int) ≤ s.length) && (decide ((s.length : Int) ≤ 8) && s.cps.toList.all okSign))) H' := k
        refine ⟨_, rfl, _, rfl, hz, _, _, rfl, rfl, _, rfl, ?_⟩
        cases e2 : decide ((1 : Int) ≤ s.length) with
        | false =>
          rw [e2] at k
          exact iteF ⟨_, rfl, iteF (k H (Same.refl H))⟩
        | true =>
          rw [e2] at k
          refine iteT ⟨_, _, rfl, rfl, _, rfl, ?_⟩
          cases e3 : decide ((s.length : Int) ≤ 8) with
          | false =>
            rw [e3] at k
            exact iteF (k H (Same.refl H))
          | true =>
            rw [e3] at k
            refine iteT ⟨_, rfl, _, rfl, ?_⟩
            intro D hD
            refine lc_acc walk_str hD (fun _ _ => trivial) (fun i => (s.cps.toList.take i).map fun c => V.bl (okSign c)) rfl (fun i hi => ?_) ?_ ?_
            · rw [List.length_map, List.length_take]
              have : s.cps.size ≤ 1000 := hs
              exact Nat.lt_of_le_of_lt (Nat.min_le_left _ _) (Nat.lt_of_lt_of_le hi (Nat.le_trans this (by decide)))
            · rintro i x H2 hi ⟨c, hc, rfl⟩ s1 R S r1 r2
              have ea : ((s.cps.toList.take (i + 1)).map fun c => V.bl (okSign c)) = ((s.cps.toList.take i).map fun c => V.bl (okSign c)) ++ [V.bl (okSign c)] := by
                have hc' : s.cps.toList[i]? = some c := by rw [Array.getElem?_toList]; exact hc
                rw [List.take_add_one, hc']
                simp
              refine ⟨rfl, tyes ⟨_, rfl, _, _, rfl, rfl, _, rfl, ?_⟩⟩
              have ec : okSign c = (!decide (([c] : List Nat) < [97]) && !decide (([122] : List Nat) < [c])) := rfl
              have ea1 : ("a" : Str).cps.toList = [97] := by decide +kernel
              have ez1 : ("z" : Str).cps.toList = [122] := by decide +kernel
              rw [ea1]
              cases e4 : (!decide (([c] : List Nat) < [97])) with
              | false =>
                rw [e4] at ec
                refine iteF (r1 _ _ ?_ (Same.refl _))
                rw [ea, ec]
                rfl
              | true =>
                rw [e4] at ec
                refine iteT ⟨_, _, rfl, rfl, r1 _ _ ?_ (Same.refl _)⟩
                rw [ea, ec, ez1]
                rfl
            · intro H2 s1 hl
              refine ⟨D, s.cps.toList.map okSign, rfl, SqL.of ?_, ?_⟩
              · rw [hl, List.map_map]
                have : s.cps.toList.take s.cps.size = s.cps.toList := by rw [← Array.length_toList, List.take_length]
                rw [this]
                rfl
              · have := k H2 s1
                rw [List.all_map]
                exact this
theorem ok_are_different_names (T : Txt K mg) : FnOk P w K mg base CX0 2 T.f_are_different_names T.fd_are_different_names ["values"] (sp_diff K) := by
  refine T.F_are_different_names.ok sc_are_different_names (fun vs H Q E h => ?_) (fun cdv A outer s H vs Q E hr h => ?_)
  · obtain ⟨l, xs, ds, rfl, _⟩ := h
    rfl
  · obtain ⟨l, xs, ds, rfl, sq, ⟨dp, few, each⟩, k⟩ := h
    refine ⟨_, (pss_one (ps_ret (pe_and (pe_callB (id := "all") (cr_all rfl) (by rfl) T.z_all (by decide +kernel) (pa_cons (pe_lc (own := [("value", 1)]) (g := gName 1) (tt := tYes) rfl sc_are_different_names.nd (pi_list (pv 0)) (blkOk_by (own := [("value", 1)]) (N := ["values", "value"]) (sc := defScope s_are_different_names) (by decide +kernel)) (fun _ _ _ _ _ => (pg_name (i := 1) sc_are_different_names.nd rfl (Or.inl rfl))) (fun _ _ _ _ _ => pts_nil) (fun _ _ _ _ _ => (pe_call (ok_is_name T) hr rfl T.m_is_name T.F_is_name.kp T.b_is_name .nil pass0 (pa_cons (pv 1) pa_nil)))) pa_nil)) (pe_one (pe_cmpR op_eq (pe_lenSetT rfl (by rfl) T.z_len (by rfl) T.z_set (pv 0)) (pe_callB (id := "len") call_len_seq (by rfl) T.z_len (by decide +kernel) (pa_cons (pv 0) pa_nil)) (nomark _)))))), ?_⟩
    have hlen := dpAll_len dp
    refine ⟨_, rfl, l, rfl, ⟨_, sq⟩, fun D hD => ?_⟩
    refine lc_acc walk_list hD (fun H' s' => s'.seq sq) (fun i => (ds.take i).map fun d => V.bl (nameO (some d))) rfl (fun i hi => ?_) ?_ ?_
    · rw [List.length_map, List.length_take]
      exact Nat.lt_of_le_of_lt (Nat.le_trans (Nat.min_le_right _ _) few) (by decide)
    · rintro i x H2 hi hx s1 R S r1 r2
      obtain ⟨dx, hdx, vx⟩ := dpAll_get dp hx
      have hm := List.mem_of_getElem? hdx
      refine ⟨rfl, tyes ⟨_, rfl, x, some dx, rfl, .dat (dp_mono s1 vx) (each dx hm).1 (each dx hm).2, fun H3 s3 => r1 _ _ ?_ s3⟩⟩
      rw [List.take_add_one, hdx]
      simp
    · intro H3 s3 hl3
      have hl3 : H3 D = some (.lst (((ds.map fun d => nameO (some d)).map V.bl))) := by
        rw [hl3, hlen, List.take_length, List.map_map]
        rfl
      refine ⟨D, _, rfl, SqL.of hl3, _, rfl, ?_⟩
      rw [all_take]
      cases q : ds.all fun d => nameO (some d) with
      | false =>
        have k : ∀ H', Same H H' → Q (.bl false) H' := fun H' s' => by
          have := k H' s'
          unfold diffN at this
          rw [q] at this
          exact this
        exact iteF (k _ s3)
      | true =>
        have e := its_strs dp q
        refine iteT ⟨_, rfl, l, ds.map strOf, rfl, (by rw [← e]; exact s3.seq sq), (by rw [List.length_map]; omega), _, rfl, l, _, rfl, .inl (s3.seq sq), rfl, ?_⟩
        have k := k _ s3
        unfold diffN at k
        rw [q] at k
        have e2 : decide (V.int ((metN (ds.map strOf) (ds.map strOf).length : Nat) : Int) = V.int ((xs.length : Nat) : Int)) = decide (metN (ds.map strOf) (ds.map strOf).length = ds.length) := by
          rw [hlen]
          exact decide_eq_decide.mpr ⟨fun z => by injection z with z; omega, fun z => by rw [z]⟩
        rw [e2]
        exact k
theorem ok_is_change (T : Txt K mg) : FnOk P w K mg base CX0 4 T.f_is_change T.fd_is_change ["value"] (sp_chg K) := by
  refine T.F_is_change.ok sc_is_change (fun vs H Q E h => ?_) (fun cdv A outer s H vs Q E hr h => ?_)
  · obtain ⟨v, o, rfl, _⟩ := h
    rfl
  · obtain ⟨v, o, rfl, hv, fw, k⟩ := h
    have ty := hv.ty
    refine ⟨_, (pss_cons (ps_if (PW.pt (pw_or (pt_not (pt_val (pe_callB (id := "isinstance") call_isi (by rfl) T.z_isinstance (by decide +kernel) (pa_cons (pv 0) (pa_cons (pe_bltn (v := .ty "tuple") (u := .type "tuple") (by rfl) T.z_tuple (by decide +kernel) rfl) pa_nil))))) (pw_or1 (pt_cmpR op_eq (pe_callB (id := "len") call_len_seq (by rfl) T.z_len (by decide +kernel) (pa_cons (pv 0) pa_nil)) pe_int (nomark _))))) (pss_one (ps_ret pe_bl)) pss_nil)
        (pss_cons (ps_asg (pv 0) (pg_tupS (n := 2) (i := 1) rfl (pgs_cons (pg_name (i := 1) sc_is_change.nd rfl (Or.inl rfl)) (pgs_star (pg_name (i := 2) sc_is_change.nd rfl (Or.inl rfl)) pgs_nil))))
        (pss_cons (ps_if (pt_cmpR (op_eqD hr.units) (pv 1) pe_str (nomark _)) (pss_one (ps_ret (pe_and (pe_cmpR op_eq (pe_callB (id := "len") call_len_seq (by rfl) T.z_len (by decide +kernel) (pa_cons (pv 2) pa_nil)) pe_int (nomark _)) (pe_and (pe_call (ok_is_name T) (hr.mono (by decide)) rfl T.m_is_name T.F_is_name.kp T.b_is_name .nil pass0 (pa_cons (pe_ix ix_list (pv 2) pe_int (fun _ _ => rfl)) pa_nil)) (pe_one (pe_call (ok_is_span T) hr rfl T.m_is_span T.F_is_span.kp T.b_is_span .nil pass0 (pa_cons (pe_ix ix_list (pv 2) pe_int (fun _ _ => rfl)) pa_nil))))))) pss_nil)
        (pss_cons (ps_if (pt_cmpR (op_eqD hr.units) (pv 1) pe_str (nomark _)) (pss_one (ps_ret (pe_and (pe_cmpR op_eq (pe_callB (id := "len") call_len_seq (by rfl) T.z_len (by decide +kernel) (pa_cons (pv 2) pa_nil)) pe_int (nomark _)) (pe_one (pe_call (ok_is_name T) (hr.mono (by decide)) rfl T.m_is_name T.F_is_name.kp T.b_is_name .nil pass0 (pa_cons (pe_ix ix_list (pv 2) pe_int (fun _ _ => rfl)) pa_nil)))))) pss_nil)
        (pss_cons (ps_if (pt_cmpR (op_eqD hr.units) (pv 1) pe_str (nomark _)) (pss_one (ps_ret (pe_and (pe_cmpR op_eq (pe_callB (id := "len") call_len_seq (by rfl) T.z_len (by decide +kernel) (pa_cons (pv 2) pa_nil)) pe_int (nomark _)) (pe_and (pe_call (ok_is_integer T) (hr.mono (by decide)) rfl T.m_is_integer T.F_is_integer.kp T.b_is_integer .nil pass0 (pa_cons (pe_ix ix_list (pv 2) pe_int (fun _ _ => rfl)) pa_nil)) (pe_one (pe_call (ok_are_different_names T) (hr.mono (by decide)) rfl T.m_are_different_names T.F_are_different_names.kp T.b_are_different_names .nil pass0 (pa_cons (pe_lst (pa_cons (pe_ix ix_list (pv 2) pe_int (fun _ _ => rfl)) (StX.pa_star (pe_slice sl_list (pv 2) (po_some pe_int) po_none) pa_nil))) pa_nil))))))) pss_nil)
        (pss_one (ps_ret (pe_and (pe_cmpR (op_eqD hr.units) (pv 1) pe_str (nomark _)) (pe_and (pe_cmpR op_eq (pe_callB (id := "len") call_len_seq (by rfl) T.z_len (by decide +kernel) (pa_cons (pv 2) pa_nil)) pe_int (nomark _)) (pe_one (pe_call (ok_are_different_names T) (hr.mono (by decide)) rfl T.m_are_different_names T.F_are_different_names.kp T.b_are_different_names .nil pass0 (pa_cons (pv 2) pa_nil)))))))))))), ?_⟩
    refine ⟨_, rfl, _, _, _, _, _, rfl, .ty _, ty, kit_o o (.inr (.inr (.inr rfl))), _, rfl, ?_⟩
    cases e : isT "tuple" o with
    | false =>
      rw [chO_ty e] at k
      exact iteT (iteT (k H (Same.refl H)))
    | true =>
      obtain ⟨a, xs, ds, rfl, rfl, hT, hD, sh⟩ := hv.tup_of e
      have I := its_of hD sh fw
      refine iteF ⟨_, rfl, _, _, rfl, .inr hT, rfl, _, rfl, ?_⟩
      obtain ⟨rfl, rfl⟩ | ⟨x, r, d, es, rfl, rfl⟩ := dp_cases hD
      · exact iteTe rfl (k H (Same.refl H))
      refine iteFe (lenF (by simp; omega)) ⟨_, rfl, a, _, rfl, hT, by simp, fun q hq => ?_⟩
      rw [(star1 x r q).1, (star1 x r q).2]
      have s2 := same_new (o := .lst r) hq
      have I2 := I.mono s2
      have hI := I2.head
      have J := I2.tail
      have hr := dpAll_len J.1
      have hL : SqL K (upd H q (.lst r)) q r := SqL.of upd_same
      have k : ∀ H', Same (upd H q (.lst r)) H' → Q (V.bl (chD (d :: es))) H' := fun H' s' => k H' (s2.trans s')
      clear I I2 hT hD hv fw ty sh e
      generalize upd H q (.lst r) = H2 at k hL J hI
      refine ⟨_, _, rfl, _, _, rfl, rfl, _, rfl, d, .str "hang", hI.1, .str _, hI.2.1, by decide +kernel, _, rfl, ?_⟩
      cases c1 : isS d "hang" with
      | true =>
        have k := fun H' s' => chD_hang (e := es) c1 ▸ k H' s'
        refine iteTe c1 ⟨_, rfl, q, r, rfl, .inl hL, rfl, _, rfl, ?_⟩
        by_cases l : r.length = 2
        · obtain ⟨x0, x1, d0, d1, rfl, rfl⟩ := its_two J.1 l
          refine iteTe rfl ⟨_, rfl, q, _, 0, x0, rfl, rfl, hL, atI_nat (j := 0) rfl, x0, some d0, rfl, J.head.2.2, fun H3 s3 => ⟨_, rfl, ?_⟩⟩
          have k : ∀ H', Same H2 H' → Q (V.bl (nameO (some d0) && spanO (some d1))) H' := k
          cases c2 : nameO (some d0) with
          | false =>
            rw [c2] at k
            exact iteF (k _ s3)
          | true =>
            rw [c2] at k
            exact iteT ⟨_, rfl, q, _, 1, x1, rfl, rfl, s3.seq hL, atI_nat (j := 1) rfl, x1, some d1, rfl, (J.tail.head.2.2).mono s3, fun H4 s4 => k _ (s3.trans s4)⟩
        · refine iteFe (lenF (by omega)) ?_
          rw [hang_no (by omega)] at k
          exact k _ (Same.refl _)
      | false =>
        refine iteFe c1 ⟨_, rfl, d, .str "take", hI.1, .str _, hI.2.1, by decide +kernel, _, rfl, ?_⟩
        cases c2 : isS d "take" with
        | true =>
          have k := fun H' s' => chD_take (e := es) c1 c2 ▸ k H' s'
          refine iteTe c2 ⟨_, rfl, q, r, rfl, .inl hL, rfl, _, rfl, ?_⟩
          by_cases l : r.length = 1
          · obtain ⟨x0, d0, rfl, rfl⟩ := its_one J.1 l
            exact iteTe rfl ⟨_, rfl, q, _, 0, x0, rfl, rfl, hL, atI_nat (j := 0) rfl, x0, some d0, rfl, J.head.2.2, fun H3 s3 => k _ s3⟩
          · refine iteFe (lenF (by omega)) ?_
            rw [take_no (by omega)] at k
            exact k _ (Same.refl _)
        | false =>
          refine iteFe c2 ⟨_, rfl, d, .str "split", hI.1, .str _, hI.2.1, by decide +kernel, _, rfl, ?_⟩
          cases c3 : isS d "split" with
          | true =>
            have k := fun H' s' => chD_split (e := es) c1 c2 c3 ▸ k H' s'
            refine iteTe c3 ⟨_, rfl, q, r, rfl, .inl hL, rfl, _, rfl, ?_⟩
            by_cases l : r.length = 4
            · obtain ⟨x0, x1, x2, x3, d0, d1, d2, d3, rfl, rfl⟩ := its_four J.1 l
              have t1 := dp_vO J.tail.head.1
              refine iteTe rfl ⟨_, rfl, q, _, 1, x1, rfl, rfl, hL, atI_nat (j := 1) rfl, x1, some d1, rfl, t1.1, t1.2, _, rfl, ?_⟩
              have k : ∀ H', Same H2 H' → Q (V.bl (intO (some d1) && diffN [d0, d2, d3])) H' := k
              cases c4 : intO (some d1) with
              | false =>
                rw [c4] at k
                exact iteF (k _ (Same.refl _))
              | true =>
                rw [c4] at k
                refine iteT ⟨_, rfl, q, _, 0, x0, rfl, rfl, hL, atI_nat (j := 0) rfl, _, rfl, 2, rfl, q, _, rfl, hL, fun q2 hq2 => ?_⟩
                have s3 := same_new (o := .lst (cutV [x0, x1, x2, x3] (some 2) none)) hq2
                refine ⟨q2, [x2, x3], rfl, .inr (SqL.of upd_same), (by show 3 ≤ sizeLine; decide), fun q3 hq3 => ?_⟩
                have s4 := s3.trans (same_new (o := .lst [x0, x2, x3]) hq3)
                exact ⟨q3, [x0, x2, x3], [d0, d2, d3], rfl, SqL.of upd_same, (Its.cons J.head.2.2 J.tail.tail (by show 2 < 100; decide)).mono s4, fun H' s' => k H' (s4.trans s')⟩
            · refine iteFe (lenF (by omega)) ?_
              rw [split_no (by omega)] at k
              exact k _ (Same.refl _)
          | false =>
            have k := fun H' s' => chD_join (e := es) c1 c2 c3 ▸ k H' s'
            refine iteFe c3 ⟨_, rfl, d, .str "join", hI.1, .str _, hI.2.1, by decide +kernel, _, rfl, ?_⟩
            cases c4 : isS d "join" with
            | false =>
              rw [c4] at k
              exact iteFe c4 (k _ (Same.refl _))
            | true =>
              rw [c4] at k
              refine iteTe c4 ⟨_, rfl, q, r, rfl, .inl hL, rfl, _, rfl, ?_⟩
              by_cases l : r.length = 3
              · obtain ⟨x0, x1, x2, d0, d1, d2, rfl, rfl⟩ := its_three J.1 l
                exact iteTe rfl ⟨_, rfl, q, _, _, rfl, hL, J, fun H' s' => k H' s'⟩
              · refine iteFe (lenF (by omega)) ?_
                rw [join_no (by omega)] at k
                exact k _ (Same.refl _)
theorem ok_InvalidChange_init (T : Txt K mg) : FnOk P w K mg base CX0 1 T.f_InvalidChange_init T.fd_InvalidChange_init ["self", "value"] (sp_xinit K T.C_InvalidChange "value") := by
  refine T.F_InvalidChange_init.ok sc_InvalidChange_init (fun vs H Q E h => ?_) (fun cdv A outer s H vs Q E hr h => ?_)
  · obtain ⟨a, v, rfl, _⟩ := h
    rfl
  · obtain ⟨a, v, rfl, x, n, ha, k⟩ := h
    refine ⟨_, (pss_one (ps_ost (pv 0) (pv 1))), ?_⟩
    exact ⟨_, rfl, _, rfl, a, T.C_InvalidChange, rfl, x, n, .inl ⟨ha, k⟩⟩
theorem ok_require_change (T : Txt K mg) : FnOk P w K mg base (L2.CX P w) 5 T.f_require_change T.fd_require_change ["value"] (sp_rchg K T.C_InvalidChange) := by
  refine T.F_require_change.okX sc_require_change (fun vs H Q E h => ?_) (fun cdv A outer s H vs Q E hr h => ?_)
  · obtain ⟨v, o, rfl, _⟩ := h
    rfl
  · obtain ⟨v, o, rfl, hv, fw, k1, k2⟩ := h
    refine ⟨_, (pss_one (ps_if (pt_not (pt_val (pe_call (ok_is_change T) hr rfl T.m_is_change T.F_is_change.kp T.b_is_change .nil pass0 (pa_cons (pv 0) pa_nil)))) (pss_one (ps_raise rfl (takes_of rfl rfl rfl rfl) (pmk_oex T.x_InvalidChange T.i_InvalidChange T.t_InvalidChange (ok_InvalidChange_init T) (hr.mono (by decide)) T.b_InvalidChange_init .nil pass0 rfl T.g_InvalidChange (pa_cons (pv 0) pa_nil)))) pss_nil)), ?_⟩
    refine ⟨_, rfl, v, o, rfl, hv, fw, fun H1 s1 => ⟨_, rfl, ?_⟩⟩
    cases e : chO o with
    | true => exact iteF (k1 e H1 s1)
    | false => exact iteT ⟨_, rfl, raise_x T.x_InvalidChange T.n_InvalidChange ((k2 e).back s1)⟩
theorem ok_roles (T : Txt K mg) : FnOk P w K mg base (L2.CX P w) 6 T.f_roles T.fd_roles ["change"] (sp_roles K T.C_InvalidChange) := by
  refine T.F_roles.okX sc_roles (fun vs H Q E h => ?_) (fun cdv A outer s H vs Q E hr h => ?_)
  · obtain ⟨v, o, rfl, _⟩ := h
    rfl
  · obtain ⟨v, o, rfl, hv, fw, k1, k2⟩ := h
    refine ⟨_, (pss_cons (ps_expr (pe_call (ok_require_change T) hr rfl T.m_require_change T.F_require_change.kp T.b_require_change .nil (passC (takes_of rfl rfl rfl rfl)) (pa_cons (pv 0) pa_nil)))
        (pss_cons (ps_asg (pv 0) (pg_tupS (n := 2) (i := 1) rfl (pgs_cons (pg_name (i := 1) sc_roles.nd rfl (Or.inl rfl)) (pgs_star (pg_name (i := 2) sc_roles.nd rfl (Or.inl rfl)) pgs_nil))))
        (pss_cons (ps_if (pt_cmpR (op_eqD hr.units) (pv 1) pe_str (nomark _)) (pss_one (ps_ret (pe_tup (pa_cons (pe_lst pa_nil) (pa_cons (pe_slice sl_list (pv 2) po_none (po_some pe_int)) pa_nil))))) pss_nil)
        (pss_cons (ps_if (pt_cmpR (op_eqD hr.units) (pv 1) pe_str (nomark _)) (pss_one (ps_ret (pe_tup (pa_cons (pv 2) (pa_cons (pe_lst pa_nil) pa_nil))))) pss_nil)
        (pss_cons (ps_if (pt_cmpR (op_eqD hr.units) (pv 1) pe_str (nomark _)) (pss_one (ps_ret (pe_tup (pa_cons (pe_slice sl_list (pv 2) po_none (po_some pe_int)) (pa_cons (pe_slice sl_list (pv 2) (po_some pe_int) po_none) pa_nil))))) pss_nil)
        (pss_one (ps_ret (pe_tup (pa_cons (pe_slice sl_list (pv 2) po_none (po_some pe_int)) (pa_cons (pe_slice sl_list (pv 2) (po_some pe_int) po_none) pa_nil)))))))))), ?_⟩
    refine ⟨_, rfl, v, o, rfl, hv, fw, fun e H1 s1 => ?_, fun e => k1 e⟩
    obtain ⟨a, xs, ds, rfl, rfl, hT, hD, sh⟩ := hv.tup_of (by
      cases q : isT "tuple" o with
      | true => rfl
      | false =>
        rw [chO_ty q] at e
        cases e)
    have e : chD ds = true := e
    have k2 := k2 ds rfl e
    have I := its_of hD sh fw
    obtain ⟨rfl, rfl⟩ | ⟨x, r, d, es, rfl, rfl⟩ := dp_cases hD
    · cases e
    refine ⟨_, rfl, a, _, rfl, same_t s1 hT, by simp, fun q hq => ?_⟩
    rw [(star1 x r q).1, (star1 x r q).2]
    have s2 := s1.trans (same_new (o := .lst r) hq)
    have I2 := I.mono s2
    have hI := I2.head
    have J := I2.tail.1
    have hqq : (upd H1 q (.lst r)) q = some (.lst r) := upd_same
    have hq0 : H q = none := s1.free hq
    clear I I2 hT hD hv fw sh k1 s1 hq
    generalize upd H1 q (.lst r) = H2 at s2 hqq J hI
    refine ⟨_, _, rfl, _, _, rfl, rfl, _, rfl, d, .str "hang", hI.1, .str _, hI.2.1, by decide +kernel, _, rfl, ?_⟩
    cases c1 : isS d "hang" with
    | true =>
      rw [chD_hang c1] at e
      rw [roleD_hang c1] at k2
      obtain ⟨n, x1, d1, rfl, rfl⟩ := hang_is J e
      refine iteTe c1 ⟨(by show 0 ≤ sizeLine; decide), fun l1 h1 => ?_⟩
      have m1 := same_new (o := .lst []) h1
      refine ⟨_, rfl, 1, rfl, q, _, rfl, SqL.of (m1 _ _ hqq), fun l2 h2 => ⟨(by show 2 ≤ sizeLine; decide), fun p hp => ?_⟩⟩
      have m2 := same_new (o := .lst (cutV [V.str n, x1] none (some 1))) h2
      exact roles_fin k2 s2 (m1.trans m2) (m2 _ _ upd_same) upd_same hp (s2.free h1) ((s2.trans m1).free h2)
    | false =>
      refine iteFe c1 ⟨_, rfl, d, .str "take", hI.1, .str _, hI.2.1, by decide +kernel, _, rfl, ?_⟩
      cases c2 : isS d "take" with
      | true =>
        rw [chD_take c1 c2] at e
        rw [roleD_take c1 c2] at k2
        obtain ⟨n, rfl, rfl⟩ := take_is J e
        refine iteTe c2 ⟨_, rfl, (by show 0 ≤ sizeLine; decide), fun l2 h2 => ⟨(by show 2 ≤ sizeLine; decide), fun p hp => ?_⟩⟩
        have m2 := same_new (o := .lst []) h2
        exact roles_fin k2 s2 m2 (m2 _ _ hqq) upd_same hp hq0 (s2.free h2)
      | false =>
        refine iteFe c2 ⟨_, rfl, d, .str "split", hI.1, .str _, hI.2.1, by decide +kernel, _, rfl, ?_⟩
        cases c3 : isS d "split" with
        | true =>
          rw [chD_split c1 c2 c3] at e
          rw [roleD_split c1 c2 c3] at k2
          obtain ⟨n, x1, d1, n2, n3, rfl, rfl⟩ := split_is J e
          refine iteTe c3 ⟨_, rfl, 1, rfl, q, _, rfl, SqL.of hqq, fun l1 h1 => ?_⟩
          have m1 := same_new (o := .lst (cutV [V.str n, x1, .str n2, .str n3] none (some 1))) h1
          refine ⟨_, rfl, 2, rfl, q, _, rfl, SqL.of (m1 _ _ hqq), fun l2 h2 => ⟨(by show 2 ≤ sizeLine; decide), fun p hp => ?_⟩⟩
          have m2 := same_new (o := .lst (cutV [V.str n, x1, .str n2, .str n3] (some 2) none)) h2
          exact roles_fin k2 s2 (m1.trans m2) (m2 _ _ upd_same) upd_same hp (s2.free h1) ((s2.trans m1).free h2)
        | false =>
          rw [chD_join c1 c2 c3, Bool.and_eq_true] at e
          rw [roleD_join c1 c2 c3] at k2
          obtain ⟨n, n1, n2, rfl, rfl⟩ := join_is J e.2
          refine iteFe c3 ⟨_, rfl, 2, rfl, q, _, rfl, SqL.of hqq, fun l1 h1 => ?_⟩
          have m1 := same_new (o := .lst (cutV [V.str n, .str n1, .str n2] none (some 2))) h1
          refine ⟨_, rfl, 2, rfl, q, _, rfl, SqL.of (m1 _ _ hqq), fun l2 h2 => ⟨(by show 2 ≤ sizeLine; decide), fun p hp => ?_⟩⟩
          have m2 := same_new (o := .lst (cutV [V.str n, .str n1, .str n2] (some 2) none)) h2
          exact roles_fin k2 s2 (m1.trans m2) (m2 _ _ upd_same) upd_same hp (s2.free h1) ((s2.trans m1).free h2)
theorem ok_law_is_name (T : Txt K mg) : FnOk P w K mg base CX0 1 T.f_law_is_name T.fd_law_is_name ["_law_value"] (sp_v1 K nameO) := by
  refine T.F_law_is_name.ok sc_law_is_name (fun vs H Q E h => ?_) (fun cdv A outer s H vs Q E hr h => ?_)
  · obtain ⟨v, o, rfl, _⟩ := h
    rfl
  · obtain ⟨v, o, rfl, hv, k⟩ := h
    have ty := hv.ty
    refine ⟨_, (pss_cons (ps_if (PW.pt (pw_or (pt_not (pt_val (pe_callB (id := "isinstance") call_isi (by rfl) T.z_isinstance (by decide +kernel) (pa_cons (pv 0) (pa_cons (pe_bltn (v := .ty "str") (u := .type "str") (by rfl) T.z_str (by decide +kernel) rfl) pa_nil))))) (pw_or (pt_cmpR op_eq (pv 0) pe_str (nomark _)) (pw_or (pt_cmpR op_lt (pe_callB (id := "len") call_len_str (by rfl) T.z_len (by decide +kernel) (pa_cons (pv 0) pa_nil)) pe_int (nomark _)) (pw_or1 (pt_cmpR op_gt (pe_callB (id := "len") call_len_str (by rfl) T.z_len (by decide +kernel) (pa_cons (pv 0) pa_nil)) pe_int (nomark _))))))) (pss_one (ps_ret pe_bl)) pss_nil)
        (pss_one (ps_ret (pe_cmpR (op_eqD hr.units) (pe_lc (own := [("_law_sign", 1)]) (g := gName 1) rfl sc_law_is_name.nd (pi_str (pv 0)) (blkOk_by (own := [("_law_sign", 1)]) (N := ["_law_value", "_law_sign"]) (sc := defScope s_law_is_name) (by decide +kernel)) (fun _ _ _ _ _ => (pg_name (i := 1) sc_law_is_name.nd rfl (Or.inl rfl))) (fun _ _ _ _ _ => (pts_one (pt_cmpR op_notIn_sign (pv 1) pe_str (by rfl)))) (fun _ _ _ _ _ => (pv 1))) (pe_lst pa_nil) (nomark _))))), ?_⟩
    refine ⟨_, rfl, _, _, _, _, _, rfl, .ty _, ty, kit_o o (.inr (.inr (.inl rfl))), _, rfl, ?_⟩
    cases e : isT "str" o with
    | false =>
      rw [nameO_no e] at k
      exact iteT (iteT (k H (Same.refl H)))
    | true =>
      obtain ⟨s, rfl, rfl, hs, hok⟩ := hv.str_of e
      have hz : s.length ≤ sizeLine := Nat.le_trans hs (by decide)
      refine iteF ⟨_, rfl, rfl, _, rfl, ?_⟩
      have k : ∀ H', Same H H' → Q (.bl (nameS s)) H' := k
      unfold nameS at k
      rw [dec_str]
      cases e1 : s == ("table" : Str) with
      | true =>
        rw [e1] at k
        exact iteT (iteT (k H (Same.refl H)))
      | false =>
        rw [e1] at k
        refine iteF ⟨_, rfl, _, rfl, hz, _, _, rfl, rfl, _, rfl, ?_⟩
        by_cases e2 : (1 : Int) ≤ s.length
        · have e2' : decide ((s.length : Int) < 1) = false := decide_eq_false (by omega)
          rw [decide_eq_true e2] at k
          rw [e2']
          refine iteF ⟨_, rfl, _, rfl, hz, _, _, rfl, rfl, _, rfl, ?_⟩
          by_cases e3 : (s.length : Int) ≤ 8
          · have e3' : decide ((8 : Int) < s.length) = false := decide_eq_false (by omega)
            rw [decide_eq_true e3] at k
            rw [e3']
            refine iteF ⟨_, rfl, _, rfl, fun D hD => ?_⟩
            refine lc_acc walk_str hD (fun _ _ => trivial) (fun i => ((s.cps.toList.take i).filter fun c => !okSign c).map fun c => V.str ⟨#[c]⟩) rfl (fun i hi => ?_) ?_ ?_
            · rw [List.length_map]
              have h1 := List.length_filter_le (fun c => !okSign c) (s.cps.toList.take i)
              rw [List.length_take] at h1
              have : s.cps.size ≤ 1000 := hs
              exact Nat.lt_of_le_of_lt h1 (Nat.lt_of_le_of_lt (Nat.min_le_left _ _) (Nat.lt_of_lt_of_le hi (Nat.le_trans this (by decide))))
            · rintro i x H2 hi ⟨c, hc, rfl⟩ s1 R S r1 r2
              have hc' : s.cps.toList[i]? = some c := by rw [Array.getElem?_toList]; exact hc
              refine ⟨rfl, _, rfl, c, _, rfl, rfl, _, rfl, ?_⟩
              rw [← okSign_is]
              cases e4 : okSign c with
              | true =>
                refine iteF (r2 _ ?_ (Same.refl _))
                rw [List.take_add_one, hc']
                simp [e4]
              | false =>
                refine iteT ⟨_, rfl, r1 _ _ ?_ (Same.refl _)⟩
                rw [List.take_add_one, hc']
                simp [e4]
            · intro H2 s1 hl
              have ht : s.cps.toList.take s.cps.size = s.cps.toList := by rw [← Array.length_toList, List.take_length]
              rw [ht] at hl
              refine ⟨Nat.zero_le _, fun q hq => ?_⟩
              have s2 : Same H2 (upd H2 q (.lst [])) := fun b o eb => by
                rw [upd_ne (ne_of_none eb hq)]
                exact eb
              have hq2 : Dp K (upd H2 q (.lst [])) (.ref q) (.list []) := .lst (SqL.of upd_same) .nil
              have hl2 : Dp K (upd H2 q (.lst [])) (.ref D) (.list ((s.cps.toList.filter fun c => !okSign c).map fun c => PyData.str ⟨#[c]⟩)) := by
                refine .lst (SqL.of (s2 _ _ hl)) ?_
                have := dpAll_strs (K := K) (H := upd H2 q (.lst [])) ((s.cps.toList.filter fun c => !okSign c).map fun c => (⟨#[c]⟩ : Str))
                rw [List.map_map, List.map_map] at this
                exact this
              refine ⟨_, _, hl2, hq2, shaped_list (n := 1) (by decide) (fun d hd => ?_), shaped_nil, ?_⟩
              · obtain ⟨c, hc, rfl⟩ := List.mem_map.mp hd
                refine ⟨?_, by simp [PyData.depth]⟩
                simp only [PyData.canLay0]
                exact strOk_sign (strOk_mem hok (List.mem_filter.mp hc).1)
              · rw [eqv_nil]
                have ee : (((s.cps.toList.filter fun c => !okSign c).map fun c => PyData.str ⟨#[c]⟩).isEmpty) = s.cps.toList.all okSign := by
                  rw [List.isEmpty_map]
                  generalize s.cps.toList = l
                  induction l with
                  | nil => rfl
                  | cons a r ih => cases h : okSign a <;> simp [h, ih]
                rw [ee]
                exact k _ (s1.trans s2)
          · have e3' : decide ((8 : Int) < s.length) = true := decide_eq_true (by omega)
            rw [decide_eq_false e3] at k
            rw [e3']
            exact iteT (k H (Same.refl H))
        · have e2' : decide ((s.length : Int) < 1) = true := decide_eq_true (by omega)
          rw [decide_eq_false e2] at k
          rw [e2']
          exact iteT (iteT (k H (Same.refl H)))
theorem ok_law_is_limit (T : Txt K mg) : FnOk P w K mg base CX0 1 T.f_law_is_limit T.fd_law_is_limit ["_law_value"] (sp_vO K limO) := by
  refine T.F_law_is_limit.ok sc_law_is_limit (fun vs H Q E h => ?_) (fun cdv A outer s H vs Q E hr h => ?_)
  · obtain ⟨v, o, rfl, _⟩ := h
    rfl
  · obtain ⟨v, o, rfl, ty, hn, k⟩ := h
    refine ⟨_, (pss_one (ps_ret (pe_or (pe_cmpR op_isN (pv 0) pe_non (nomark _)) (pe_one (pe_and (pe_callB (id := "isinstance") call_isi (by rfl) T.z_isinstance (by decide +kernel) (pa_cons (pv 0) (pa_cons (pe_bltn (v := .ty "int") (u := .type "int") (by rfl) T.z_int (by decide +kernel) rfl) pa_nil))) (pe_one (pe_not (pe_callB (id := "isinstance") call_isi (by rfl) T.z_isinstance (by decide +kernel) (pa_cons (pv 0) (pa_cons (pe_bltn (v := .ty "bool") (u := .type "bool") (by rfl) T.z_bool (by decide +kernel) rfl) pa_nil)))))))))), ?_⟩
    refine ⟨_, rfl, rfl, _, rfl, ?_⟩
    unfold limO intO at k
    rw [hn]
    cases e : nonO o with
    | true =>
      rw [e] at k
      exact iteT k
    | false =>
      rw [e] at k
      refine iteF ⟨_, rfl, _, _, _, _, _, rfl, .ty _, ty, kit_o o (.inl rfl), _, rfl, ?_⟩
      cases e1 : isT "int" o with
      | false =>
        rw [e1] at k
        exact iteF k
      | true =>
        rw [e1] at k
        exact iteT ⟨_, rfl, _, _, _, _, _, rfl, .ty _, ty, kit_o o (.inr (.inl rfl)), _, rfl, k⟩
theorem ok_law_is_span (T : Txt K mg) : FnOk P w K mg base CX0 2 T.f_law_is_span T.fd_law_is_span ["_law_value"] (sp_v1 K spanO) := by
  refine T.F_law_is_span.ok sc_law_is_span (fun vs H Q E h => ?_) (fun cdv A outer s H vs Q E hr h => ?_)
  · obtain ⟨v, o, rfl, _⟩ := h
    rfl
  · obtain ⟨v, o, rfl, hv, k⟩ := h
    have ty := hv.ty
    have k := k H (Same.refl H)
    refine ⟨_, (pss_cons (ps_if (PW.pt (pw_or (pt_not (pt_val (pe_callB (id := "isinstance") call_isi (by rfl) T.z_isinstance (by decide +kernel) (pa_cons (pv 0) (pa_cons (pe_bltn (v := .ty "tuple") (u := .type "tuple") (by rfl) T.z_tuple (by decide +kernel) rfl) pa_nil))))) (pw_or1 (pt_cmpR op_ne (pe_callB (id := "len") call_len_seq (by rfl) T.z_len (by decide +kernel) (pa_cons (pv 0) pa_nil)) pe_int (nomark _))))) (pss_one (ps_ret pe_bl)) pss_nil)
        (pss_cons (ps_if (PW.pt (pw_or (pt_not (pt_val (pe_call (ok_law_is_limit T) hr rfl T.m_law_is_limit T.F_law_is_limit.kp T.b_law_is_limit .nil pass0 (pa_cons (pe_ix ix_tup (pv 0) pe_int (fun _ _ => rfl)) pa_nil)))) (pw_or1 (pt_not (pt_val (pe_call (ok_law_is_limit T) hr rfl T.m_law_is_limit T.F_law_is_limit.kp T.b_law_is_limit .nil pass0 (pa_cons (pe_ix ix_tup (pv 0) pe_int (fun _ _ => rfl)) pa_nil))))))) (pss_one (ps_ret pe_bl)) pss_nil)
        (pss_one (ps_ret (pe_or (pe_cmpR op_isN (pe_ix ix_tup (pv 0) pe_int (fun _ _ => rfl)) pe_non (nomark _)) (pe_or (pe_cmpR op_isN (pe_ix ix_tup (pv 0) pe_int (fun _ _ => rfl)) pe_non (nomark _)) (pe_one (pe_cmpR op_lt (pe_ix ix_tup (pv 0) pe_int (fun _ _ => rfl)) (pe_ix ix_tup (pv 0) pe_int (fun _ _ => rfl)) (nomark _))))))))), ?_⟩
    refine ⟨_, rfl, _, _, _, _, _, rfl, .ty _, ty, kit_o o (.inr (.inr (.inr rfl))), _, rfl, ?_⟩
    cases e : isT "tuple" o with
    | false =>
      rw [spanO_ty e] at k
      exact iteT (iteT k)
    | true =>
      obtain ⟨a, xs, ds, rfl, rfl, hT, hD, sh⟩ := hv.tup_of e
      have hlen := dpAll_len hD
      refine iteF ⟨_, rfl, _, _, rfl, .inr hT, rfl, _, rfl, ?_⟩
      by_cases e2 : xs.length = 2
      · obtain ⟨x, y, d, d2, rfl, rfl, h1, h2⟩ := dp_two hD e2
        have t1 := dp_vO h1
        have t2 := dp_vO h2
        have k : Q (.bl (limO (some d) && (limO (some d2) && ltO d d2))) H := k
        refine iteFe rfl ⟨_, rfl, a, _, 0, x, rfl, rfl, hT, atI_nat (j := 0) rfl, x, some d, rfl, t1.1, t1.2, _, rfl, ?_⟩
        cases l1 : limO (some d) with
        | false =>
          rw [l1] at k
          exact iteT (iteT k)
        | true =>
          rw [l1] at k
          refine iteF ⟨_, rfl, a, _, 1, y, rfl, rfl, hT, atI_nat (j := 1) rfl, y, some d2, rfl, t2.1, t2.2, _, rfl, ?_⟩
          cases l2 : limO (some d2) with
          | false =>
            rw [l2] at k
            exact iteT k
          | true =>
            rw [l2] at k
            refine iteF ⟨_, rfl, a, _, 0, x, rfl, rfl, hT, atI_nat (j := 0) rfl, rfl, _, rfl, ?_⟩
            have k : Q (.bl (ltO d d2)) H := k
            cases h1 with
            | non => exact iteT k
            | int i =>
              refine iteF ⟨_, rfl, a, _, 1, y, rfl, rfl, hT, atI_nat (j := 1) rfl, rfl, _, rfl, ?_⟩
              cases h2 with
              | non => exact iteT k
              | int j => exact iteF ⟨_, rfl, a, _, 0, _, rfl, rfl, hT, atI_nat (j := 0) rfl, _, rfl, a, _, 1, _, rfl, rfl, hT, atI_nat (j := 1) rfl, _, _, rfl, rfl, k⟩
              | _ => cases l2
            | _ => cases l1
      · have e4 : spanO (some (.tuple ds)) = false := spanO_no fun q => e2 (hlen.trans q)
        rw [e4] at k
        exact iteTe (by rw [lenF (by omega)]; rfl) k
theorem ok_law_is_change (T : Txt K mg) : FnOk P w K mg base CX0 3 T.f_law_is_change T.fd_law_is_change ["_law_value"] (sp_chg K) := by
  refine T.F_law_is_change.ok sc_law_is_change (fun vs H Q E h => ?_) (fun cdv A outer s H vs Q E hr h => ?_)
  · obtain ⟨v, o, rfl, _⟩ := h
    rfl
  · obtain ⟨v, o, rfl, hv, fw, k⟩ := h
    have ty := hv.ty
    refine ⟨_, (pss_cons (ps_if (PW.pt (pw_or (pt_not (pt_val (pe_callB (id := "isinstance") call_isi (by rfl) T.z_isinstance (by decide +kernel) (pa_cons (pv 0) (pa_cons (pe_bltn (v := .ty "tuple") (u := .type "tuple") (by rfl) T.z_tuple (by decide +kernel) rfl) pa_nil))))) (pw_or (pt_cmpR (op_eqD hr.units) (pv 0) (pe_tup pa_nil) (nomark _)) (pw_or1 (pt_cmpR (op_notInD (u65 hr)) (pe_ix ix_tup (pv 0) pe_int (fun _ _ => rfl)) (pe_lst (pa_cons pe_str (pa_cons pe_str (pa_cons pe_str (pa_cons pe_str pa_nil))))) (by rfl)))))) (pss_one (ps_ret pe_bl)) pss_nil)
        (pss_cons (ps_set (i := 1) sc_law_is_change.nd rfl (Or.inl rfl) (pe_callTy (T := "list") call_list_of (by rfl) T.z_list (by decide +kernel) (pa_cons (pe_slice sl_tup (pv 0) (po_some pe_int) po_none) pa_nil)))
        (pss_cons (ps_if (pt_cmpR op_ne (pe_callB (id := "len") call_len_seq (by rfl) T.z_len (by decide +kernel) (pa_cons (pv 1) pa_nil)) (pe_dget (hu_of hr) (pe_disp (pps_cons pe_str pe_int (pps_cons pe_str pe_int (pps_cons pe_str pe_int (pps_cons pe_str pe_int pps_nil)))) (by rfl) (by rfl) (fun z => by cases z) (by decide)) (pe_ix ix_tup (pv 0) pe_int (fun _ _ => rfl)) (fun _ _ => rfl)) (nomark _)) (pss_one (ps_ret pe_bl)) pss_nil)
        (pss_cons (ps_if (pt_cmpR (op_eqD hr.units) (pe_ix ix_tup (pv 0) pe_int (fun _ _ => rfl)) pe_str (nomark _)) (pss_one (ps_ret (pe_and (pe_call (ok_law_is_name T) (hr.mono (by decide)) rfl T.m_law_is_name T.F_law_is_name.kp T.b_law_is_name .nil pass0 (pa_cons (pe_ix ix_list (pv 1) pe_int (fun _ _ => rfl)) pa_nil)) (pe_one (pe_call (ok_law_is_span T) hr rfl T.m_law_is_span T.F_law_is_span.kp T.b_law_is_span .nil pass0 (pa_cons (pe_ix ix_list (pv 1) pe_int (fun _ _ => rfl)) pa_nil)))))) pss_nil)
        (pss_cons (ps_set (i := 2) sc_law_is_change.nd rfl (Or.inr rfl) (pv 1))
        (C8.pss_cut (ps_if (pt_cmpR (op_eqD hr.units) (pe_ix ix_tup (pv 0) pe_int (fun _ _ => rfl)) pe_str (nomark _)) (pss_cons (ps_if (PW.pt (pw_or (pt_cmpR op_isN (pe_ix ix_list (pv 1) pe_int (fun _ _ => rfl)) pe_non (nomark _)) (pw_or1 (pt_not (pt_val (pe_call (ok_law_is_limit T) (hr.mono (by decide)) rfl T.m_law_is_limit T.F_law_is_limit.kp T.b_law_is_limit .nil pass0 (pa_cons (pe_ix ix_list (pv 1) pe_int (fun _ _ => rfl)) pa_nil))))))) (pss_one (ps_ret pe_bl)) pss_nil)
        (pss_one (ps_set (i := 2) sc_law_is_change.nd rfl (Or.inr rfl) (pe_op op_cat (pe_lst (pa_cons (pe_ix ix_list (pv 1) pe_int (fun _ _ => rfl)) pa_nil)) (pe_slice sl_list (pv 1) (po_some pe_int) po_none))))) pss_nil)
        (pss_cons (ps_if (pt_cmpR (op_neD hr.units) (pe_lc (own := [("_law_name", 3)]) (g := gName 3) rfl sc_law_is_change.nd (pi_list (pv 2)) (blkOk_by (own := [("_law_name", 3)]) (N := ["_law_value", "_law_given", "_law_names_here", "_law_name", "_law_k"]) (sc := defScope s_law_is_change) (by decide +kernel)) (fun _ _ _ _ _ => (pg_name (i := 3) sc_law_is_change.nd rfl (Or.inl rfl))) (fun _ _ _ _ _ => (pts_one (pt_not (pt_val (pe_call (ok_law_is_name T) (hr.mono (by decide)) rfl T.m_law_is_name T.F_law_is_name.kp T.b_law_is_name .nil pass0 (pa_cons (pv 3) pa_nil)))))) (fun _ _ _ _ _ => (pv 3))) (pe_lst pa_nil) (nomark _)) (pss_one (ps_ret pe_bl)) pss_nil)
        (pss_one (ps_ret (pe_cmpR (op_eqD hr.units) (pe_lc (own := [("_law_k", 4)]) (g := gName 4) rfl sc_law_is_change.nd (pi_range1 rfl T.z_range (pa_cons (pe_callB (id := "len") call_len_seq (by rfl) T.z_len (by decide +kernel) (pa_cons (pv 2) pa_nil)) pa_nil)) (blkOk_by (own := [("_law_k", 4)]) (N := ["_law_value", "_law_given", "_law_names_here", "_law_name", "_law_k"]) (sc := defScope s_law_is_change) (by decide +kernel)) (fun _ _ _ _ _ => (pg_name (i := 4) sc_law_is_change.nd rfl (Or.inl rfl))) (fun _ _ _ _ _ => (pts_one (pt_cmpR (r := rIn K false) op_in_seq (pe_ix (r := rIxL K) ix_list (pv 2) (pv 4) (fun _ _ => rfl)) (pe_slice (r := rSlL K) sl_list (pv 2) po_none (po_some (pv 4))) (by rfl)))) (fun _ _ _ _ _ => (pv 4))) (pe_lst pa_nil) (nomark _))))))))))), ?_⟩
    refine ⟨_, rfl, _, _, _, _, _, rfl, .ty _, ty, kit_o o (.inr (.inr (.inr rfl))), _, rfl, ?_⟩
    cases e : isT "tuple" o with
    | false =>
      rw [chO_ty e] at k
      exact iteT (iteT (k H (Same.refl H)))
    | true =>
      obtain ⟨a, xs, ds, rfl, rfl, hT, hD, sh⟩ := hv.tup_of e
      have I := its_of hD sh fw
      refine iteF ⟨_, rfl, (by show 0 ≤ sizeLine; decide), fun q0 h0 => ?_⟩
      have s0 := same_new (o := .tup []) h0
      refine ⟨.tuple ds, .tuple [], dp_mono s0 (.tup hT hD), .tup (SqT.of upd_same) .nil, sh, by decide +kernel, _, rfl, ?_⟩
      rw [eqv_nilT]
      obtain ⟨rfl, rfl⟩ | ⟨x, r, d, es, rfl, rfl⟩ := dp_cases hD
      · exact iteTe rfl (iteT (k _ s0))
      refine iteFe rfl ⟨_, rfl, a, _, 0, x, rfl, rfl, same_t s0 hT, atI_nat (j := 0) rfl, (by show 4 ≤ sizeLine; decide), fun q1 h1 => ?_⟩
      have s1 := s0.trans (same_new (o := .lst [.str "hang", .str "take", .str "split", .str "join"]) h1)
      refine ⟨d, [.str "hang", .str "take", .str "split", .str "join"], dp_mono s1 I.head.1, .lst (SqL.of upd_same) (dpAll_strs ["hang", "take", "split", "join"]), I.head.2.1, by decide +kernel, _, rfl, ?_⟩
      rw [any4]
      cases c0 : (isS d "hang" || (isS d "take" || (isS d "split" || isS d "join"))) with
      | false =>
        refine iteTe rfl ?_
        have k : ∀ H', Same H H' → Q (.bl (chD (d :: es))) H' := k
        rw [none4 c0] at k
        exact k _ s1
      | true =>
        obtain ⟨wd, hw, rfl⟩ : ∃ wd, wd ∈ (["hang", "take", "split", "join"] : List Str) ∧ d = .str wd := by
          rcases one4 c0 with rfl | rfl | rfl | rfl
          all_goals exact ⟨_, by simp, rfl⟩
        obtain rfl : x = .str wd := by
          have := I.head.1
          cases this
          rfl
        refine iteFe rfl ⟨_, rfl, 1, rfl, a, _, rfl, same_t s1 hT, ?_, fun q2 h2 => ?_⟩
        · rw [show (1 : Int) = ((1 : Nat) : Int) from rfl, HT.sIx_nat]
          simp
        have ec : cutV (V.str wd :: r) (some 1) none = r := cut_dropV (V.str wd :: r) (i := 1) (by simp)
        rw [ec]
        have s2 := s1.trans (same_new (o := .tup r) h2)
        refine ⟨q2, r, rfl, .inr (SqT.of upd_same), fun f hf => ?_⟩
        have s3 := s2.trans (same_new (o := .lst r) hf)
        have deep : ∀ d ∈ es, d.canLay0 = true ∧ d.depth ≤ 63 := fun d hd => shaped_of_tuple sh (List.mem_cons_of_mem _ hd)
        have k : ∀ H', Same H H' → Q (.bl (chD (.str wd :: es))) H' := k
        have J := I.tail
        have jl := dpAll_len J.1
        refine ⟨_, rfl, f, r, rfl, .inl (SqL.of upd_same), fun qd hqd => ⟨upd_same, kinds4, rfl, by decide, ?_⟩⟩
        have s4 : Same H _ := s3.trans (fun b o eb => by rw [upd_ne (ne_of_none eb hqd), upd_ne (ne_of_none eb hqd)]; exact eb : Same _ (upd (upd _ qd (.dK [])) qd (.dK (mergeK [] kinds4))))
        have hL : SqL K _ f r := SqL.of ((fun b o eb => by rw [upd_ne (ne_of_none eb hqd), upd_ne (ne_of_none eb hqd)]; exact eb : Same _ (upd (upd _ qd (.dK [])) qd (.dK (mergeK [] kinds4)))) f _ upd_same)
        refine ⟨_, rfl, a, _, 0, .str wd, rfl, rfl, same_t s4 hT, atI_nat (j := 0) rfl, qd, .int (cntW wd), rfl, .inl ⟨_, .inr wd, .inl upd_same, rfl, (kinds4_at wd hw).symm⟩, rfl, _, rfl, ?_⟩
        by_cases l : ((es.length : Nat) : Int) = cntW wd
        · refine iteFe (by rw [lenT (by rw [jl]; exact l)]; rfl) ?_
          have hT4 := same_t s4 hT
          have J := J.mono s4
          have k := fun H' s' => k H' (s4.trans s')
          clear s0 s1 s2 s3 s4 hT I hv ty fw hD e hqd hf h2 h1 h0
          revert k J hT4 hL
          generalize (upd (upd _ qd (.dK [])) qd (.dK (mergeK [] kinds4))) = H4
          intro hL hT4 J k
          have hsw := sh4 wd hw
          refine ⟨_, rfl, a, _, 0, .str wd, rfl, rfl, hT4, atI_nat (j := 0) rfl, .str wd, .str "hang", .str _, .str _, hsw, by decide +kernel, _, rfl, ?_⟩
          rw [eqv_strs]
          cases ch : wd == ("hang" : Str) with
          | true =>
            obtain rfl := beq_iff_eq.mp ch
            rw [chw_hang] at k
            obtain ⟨x0, x1, d0, d1, rfl, rfl⟩ := its_two J.1 (by rw [jl]; exact Int.ofNat.inj (l.trans (by decide +kernel : cntW "hang" = 2)))
            refine iteTe rfl ⟨_, rfl, f, _, 0, x0, rfl, rfl, hL, atI_nat (j := 0) rfl, x0, some d0, rfl, J.head.2.2, fun H5 s5 => ⟨_, rfl, ?_⟩⟩
            have k : ∀ H', Same H4 H' → Q (V.bl (nameO (some d0) && spanO (some d1))) H' := k
            cases c2 : nameO (some d0) with
            | false =>
              rw [c2] at k
              exact iteF (k _ s5)
            | true =>
              rw [c2] at k
              exact iteT ⟨_, rfl, f, _, 1, x1, rfl, rfl, s5.seq hL, atI_nat (j := 1) rfl, x1, some d1, rfl, (J.tail.head.2.2).mono s5, fun H6 s6 => k _ (s5.trans s6)⟩
          | false =>
            refine iteF ⟨_, rfl, fun σ H' => ∃ (L : Addr) (zs : List V) (fs : List PyData), σ = [some (.ref a), some (.ref f), some (.ref L), none, none] ∧ SqL K H' L zs ∧ Its K H' zs fs ∧ (∀ d ∈ fs, d.canLay0 = true ∧ d.depth ≤ 63) ∧ ∀ H'', Same H' H'' → Q (.bl (diffN fs)) H'', ?_, ?_⟩
            · refine ⟨_, rfl, a, _, 0, .str wd, rfl, rfl, hT4, atI_nat (j := 0) rfl, .str wd, .str "split", .str _, .str _, hsw, by decide +kernel, _, rfl, ?_⟩
              rw [eqv_strs]
              cases cs : wd == ("split" : Str) with
              | true =>
                obtain rfl := beq_iff_eq.mp cs
                rw [chw_split] at k
                obtain ⟨x0, x1, x2, x3, d0, d1, d2, d3, rfl, rfl⟩ := its_four J.1 (by rw [jl]; exact Int.ofNat.inj (l.trans (by decide +kernel : cntW "split" = 4)))
                have t1 := dp_vO J.tail.head.1
                have k : ∀ H', Same H4 H' → Q (V.bl (intO (some d1) && diffN [d0, d2, d3])) H' := k
                refine iteTe rfl ⟨_, rfl, f, _, 1, x1, rfl, rfl, hL, atI_nat (j := 1) rfl, rfl, _, rfl, ?_⟩
                rw [t1.2]
                cases cn : nonO (some d1) with
                | true =>
                  rw [not_lim cn] at k
                  exact iteT (iteT (k _ (Same.refl _)))
                | false =>
                  refine iteF ⟨_, rfl, f, _, 1, x1, rfl, rfl, hL, atI_nat (j := 1) rfl, x1, some d1, rfl, t1.1, t1.2, _, rfl, ?_⟩
                  rw [lim_int cn]
                  cases ci : intO (some d1) with
                  | false =>
                    rw [ci] at k
                    exact iteT (k _ (Same.refl _))
                  | true =>
                    rw [ci] at k
                    refine iteF ⟨_, rfl, f, _, 0, x0, rfl, rfl, hL, atI_nat (j := 0) rfl, (by show 1 ≤ sizeLine; decide), fun l1 h1 => ?_⟩
                    have s5 := same_new (o := .lst [x0]) h1
                    refine ⟨_, rfl, 2, rfl, f, _, rfl, s5.seq hL, fun l2 h2 => ?_⟩
                    have s6 := same_new (o := .lst (cutV [x0, x1, x2, x3] (some 2) none)) h2
                    refine ⟨l1, l2, [x0], [x2, x3], rfl, rfl, s6 _ _ upd_same, upd_same, (by show 3 ≤ sizeLine; decide), fun L h3 => ?_⟩
                    have s7 := s5.trans (s6.trans (same_new (o := .lst [x0, x2, x3]) h3))
                    exact ⟨L, [x0, x2, x3], [d0, d2, d3], rfl, SqL.of upd_same, (Its.cons J.head.2.2 J.tail.tail (by show 2 < 100; decide)).mono s7, fun d hd => deep d (by
                      simp only [List.mem_cons, List.not_mem_nil, or_false] at hd ⊢
                      rcases hd with rfl | rfl | rfl
                      · exact .inl rfl
                      · exact .inr (.inr (.inl rfl))
                      · exact .inr (.inr (.inr rfl))), fun H' s' => k H' (s7.trans s')⟩
              | false =>
                refine iteF ⟨f, r, es, rfl, hL, J, deep, fun H' s' => ?_⟩
                have k := k H' s'
                simp only [List.mem_cons, List.not_mem_nil, or_false] at hw
                rcases hw with rfl | rfl | rfl | rfl
                · exact absurd ch (by decide +kernel)
                · rw [chw_take] at k
                  obtain ⟨x0, d0, rfl, rfl⟩ := its_one J.1 (by rw [jl]; exact Int.ofNat.inj (l.trans (by decide +kernel : cntW "take" = 1)))
                  rw [diff_one]
                  exact k
                · exact absurd cs (by decide +kernel)
                · rw [chw_join] at k
                  obtain ⟨x0, x1, x2, d0, d1, d2, rfl, rfl⟩ := its_three J.1 (by rw [jl]; exact Int.ofNat.inj (l.trans (by decide +kernel : cntW "join" = 3)))
                  exact k
            clear k J hT4 hL deep jl sh c0 hsw hw l
            rintro σ H5 ⟨L, zs, fs, rfl, hL, J, deep, k⟩
            have hlen := dpAll_len J.1
            refine ⟨_, rfl, L, rfl, ⟨_, hL⟩, fun D hD1 => ?_⟩
            refine lc_acc walk_list hD1 (fun H' s' => s'.seq hL) (fun i => filtG (fun d => !nameO (some d)) (zs.take i) (fs.take i)) rfl (fun i hi => Nat.lt_of_le_of_lt (filtG_len _ _ _) ?_) ?_ ?_
            · rw [List.length_take]
              exact Nat.lt_of_le_of_lt (Nat.le_trans (Nat.min_le_right _ _) (by rw [hlen]; exact J.2.1)) (by decide)
            · rintro i x H2 hi hx s1 R S r1 r2
              obtain ⟨dx, hdx, vx⟩ := dpAll_get J.1 hx
              have hm := List.mem_of_getElem? hdx
              have step := filtG_step (f := fun d => !nameO (some d)) hx hdx
              refine ⟨rfl, _, rfl, x, some dx, rfl, .dat (dp_mono s1 vx) (J.2.2 dx hm).1 (J.2.2 dx hm).2, fun H3 s3 => ⟨_, rfl, ?_⟩⟩
              cases q : nameO (some dx) with
              | true =>
                rw [q, if_neg (by decide)] at step
                exact iteF (r2 _ step s3)
              | false =>
                rw [q, if_pos (by decide)] at step
                exact iteT ⟨_, rfl, r1 _ _ step s3⟩
            intro H2 s1 hl2
            have hl2 : H2 D = some (.lst (filtG (fun d => !nameO (some d)) (zs.take zs.length) (fs.take zs.length))) := hl2
            rw [List.take_length, hlen, List.take_length] at hl2
            refine ⟨Nat.zero_le _, fun q hq => ?_⟩
            have s2 := same_new (o := .lst []) hq
            have sC := s1.trans s2
            refine ⟨_, _, .lst (SqL.of (s2 _ _ hl2)) (filtG_dp (dpAll_mono sC J.1)), .lst (SqL.of upd_same) .nil, shaped_list (n := 63) (by decide) (fun d hd => deep d (List.mem_filter.mp hd).1), shaped_nil, _, rfl, ?_⟩
            rw [eqv_nil]
            cases e1 : fs.all fun d => nameO (some d) with
            | false =>
              have e2 : diffN fs = false := by
                unfold diffN
                rw [e1]
                rfl
              rw [e2] at k
              have ne : (fs.filter fun d => !nameO (some d)).isEmpty = false := by
                rw [Bool.eq_false_iff]
                intro h
                rw [List.isEmpty_iff, List.filter_eq_nil_iff] at h
                have : (fs.all fun d => nameO (some d)) = true := List.all_eq_true.mpr fun d hd => by simpa using h d hd
                rw [this] at e1
                cases e1
              rw [ne]
              exact iteT (k _ sC)
            | true =>
              have e2 : diffN fs = decide (metN (fs.map strOf) (fs.map strOf).length = (fs.map strOf).length) := by
                unfold diffN
                rw [e1, List.length_map]
                rfl
              rw [e2] at k
              have em : (fs.filter fun d => !nameO (some d)).isEmpty = true := by
                rw [List.isEmpty_iff, List.filter_eq_nil_iff]
                intro d hd
                simpa using List.all_eq_true.mp e1 d hd
              rw [em]
              have ez := its_strs J.1 e1
              have few := J.2.1
              have hLz := sC.seq hL
              rw [ez] at hLz
              generalize hS : fs.map strOf = S at k hLz
              have nS : S.length ≤ 100 := by rw [← hS, List.length_map]; exact few
              have k := fun H'' s' => k H'' (sC.trans s')
              clear hl2 hq hD1 s1 s2 sC e2 em ez few J hL deep hlen e1
              generalize upd H2 q (.lst []) = H6 at k hLz
              refine iteF ⟨_, rfl, L, _, rfl, .inl hLz, ((S.map V.str).length : Nat), rfl, by omega, by rw [List.length_map]; omega, fun D4 hD4 => ?_⟩
              have en : (((S.map V.str).length : Nat) : Int).toNat = S.length := by rw [List.length_map]; omega
              refine lc_acc (n := (((S.map V.str).length : Nat) : Int).toNat) (item := fun i x => x = V.int (0 + (i : Int))) walk_range hD4 (fun _ _ => trivial) (fun i => (((List.range i).filter (metI S)).map Int.ofNat).map V.int) rfl (fun i hi => ?_) ?_ ?_
              · rw [List.length_map, List.length_map]
                rw [en] at hi
                have := List.length_filter_le (metI S) (List.range i)
                rw [List.length_range] at this
                exact Nat.lt_of_le_of_lt this (Nat.lt_of_lt_of_le (show i < 101 by omega) (by decide))
              · rintro i x Hd hi rfl s3 R S' r1 r2
                rw [en] at hi
                have step := range_filter_step (metI S) i
                have hsi : S[i]? = some S[i] := List.getElem?_eq_getElem hi
                have ati : atI (S.map V.str) (0 + (i : Int)) = some (.str S[i]) := by
                  rw [Int.zero_add]
                  exact atI_nat (by rw [List.getElem?_map, hsi]; rfl)
                refine ⟨rfl, _, rfl, _, rfl, L, _, _, _, rfl, rfl, s3.seq hLz, ati, _, rfl, _, rfl, _, rfl, L, _, rfl, s3.seq hLz, fun q5 hq5 => ?_⟩
                rw [Int.zero_add, cut_takeV (S.map V.str) (by rw [List.length_map]; omega), ← List.map_take]
                have s6 := same_new (o := .lst ((S.take i).map V.str)) hq5
                refine ⟨q5, (S.take i).map V.str, rfl, .inl (SqL.of upd_same), rfl, flat_strs _, _, rfl, ?_⟩
                have hci : inV (.str S[i]) ((S.take i).map V.str) = metI S i := by
                  rw [in_strs, met_in]
                  unfold metI
                  rw [List.getD_eq_getElem?_getD, hsi]
                  rfl
                show (if (inV (.str S[i]) ((S.take i).map V.str)) = true then _ else _)
                rw [hci]
                cases c9 : metI S i with
                | true =>
                  rw [c9, if_pos rfl] at step
                  refine iteT ⟨_, rfl, r1 _ _ ?_ s6⟩
                  rw [step, List.map_append, List.map_append]
                  rfl
                | false =>
                  rw [c9, if_neg (by decide)] at step
                  exact iteF (r2 _ (by rw [step]) s6)
              intro Hd s3 hl10
              have hl10 : Hd D4 = some (.lst ((((List.range (((S.map V.str).length : Nat) : Int).toNat).filter (metI S)).map Int.ofNat).map V.int)) := hl10
              rw [en] at hl10
              refine ⟨Nat.zero_le _, fun q9 hq9 => ?_⟩
              have s6 := same_new (o := .lst []) hq9
              refine ⟨_, _, .lst (SqL.of (s6 _ _ hl10)) (dpAll_ints _), .lst (SqL.of upd_same) .nil, ints_shaped _, shaped_nil, ?_⟩
              rw [eqv_nil, List.isEmpty_map, List.isEmpty_map, met_empty]
              exact k _ (s3.trans s6)
        · refine iteTe (by rw [lenF (by rw [jl]; exact l)]; rfl) ?_
          rw [chD_len hw l] at k
          exact k _ s4
theorem ok_law_right (T : Txt K mg) : FnOk P w K mg base CX0 2 T.f_law_right T.fd_law_right ["_law_box_here", "_law_names_here"] (sp_right11 K) := by
  refine T.F_law_right.ok sc_law_right (fun vs H Q E h => ?_) (fun cdv A outer s H vs Q E hr h => ?_)
  · obtain ⟨H0, p, q, n, ss, rfl, _⟩ := h
    rfl
  · obtain ⟨H0, p, q, n, ss, rfl, B, hq, h3, hok, hn, k⟩ := h
    refine ⟨_, (pss_cons (ps_set (i := 2) sc_law_right.nd rfl (Or.inl rfl) (pe_op op_sub (pe_call (ok_law_take T) hr rfl T.m_law_take T.F_law_take.kp T.b_law_take .nil pass0 (pa_cons (pv 0) (pa_cons pe_int pa_nil))) pe_int))
        (pss_cons (ps_set (i := 3) sc_law_right.nd rfl (Or.inl rfl) (pe_lst (pa_cons (pe_tup (pa_cons pe_str (pa_cons (pe_ix ix_list (pv 1) pe_int (fun _ _ => rfl)) (pa_cons (pe_tup (pa_cons (pv 2) (pa_cons (pe_op op_add (pv 2) pe_int) pa_nil))) pa_nil)))) (pa_cons (pe_tup (pa_cons pe_str (pa_cons (pe_ix ix_list (pv 1) pe_int (fun _ _ => rfl)) (pa_cons (pe_tup (pa_cons pe_non (pa_cons (pv 2) pa_nil))) pa_nil)))) (pa_cons (pe_tup (pa_cons pe_str (pa_cons (pe_ix ix_list (pv 1) pe_int (fun _ _ => rfl)) pa_nil))) pa_nil)))))
        (pss_cons (ps_set (i := 3) sc_law_right.nd rfl (Or.inl rfl) (pe_op op_cat (pv 3) (pe_lst (pa_cons (pe_tup (pa_cons pe_str (pa_cons (pe_ix ix_list (pv 1) pe_int (fun _ _ => rfl)) (pa_cons (pv 2) (pa_cons (pe_ix ix_list (pv 1) pe_int (fun _ _ => rfl)) (pa_cons (pe_ix ix_list (pv 1) pe_int (fun _ _ => rfl)) pa_nil)))))) (pa_cons (pe_tup (pa_cons pe_str (pa_cons (pe_ix ix_list (pv 1) pe_int (fun _ _ => rfl)) (pa_cons (pe_ix ix_list (pv 1) pe_int (fun _ _ => rfl)) (pa_cons (pe_ix ix_list (pv 1) pe_int (fun _ _ => rfl)) pa_nil))))) pa_nil)))))
        (pss_one (ps_ret (pe_ix ix_list (pv 3) (pe_call (ok_law_take T) hr rfl T.m_law_take T.F_law_take.kp T.b_law_take .nil pass0 (pa_cons (pv 0) (pa_cons pe_int pa_nil))) (fun _ _ => rfl))))))), ?_⟩
    match ss, h3 with
    | [a, b, c], _ =>
      have ga := hok a (by simp)
      have gb := hok b (by simp)
      have gc := hok c (by simp)
      refine ⟨_, rfl, H0, p, n, 21, rfl, B, by omega, by decide, by decide, fun z1 H1 z10 z11 B1 => ⟨_, _, rfl, rfl, ?_⟩⟩
      have r2 : (2 : Nat) ≤ sizeLine := by decide
      have r3 : (3 : Nat) ≤ sizeLine := by decide
      have hqs : ∀ {G H' : Hp} {m : Nat}, Same H0 G → BoxIn G H' p m → SqL K H' q ([a, b, c].map V.str) := fun s' b' => SqL.of (b'.same _ _ (s' _ _ hq))
      refine ⟨_, rfl, q, _, 0, .str a, rfl, rfl, hqs (Same.refl _) B1, atI_nat (j := 0) rfl, _, rfl, _, rfl, _, _, rfl, rfl, r2, fun t1 h1 => ?_⟩
      have b1 := B1.new (o := .tup [.int (z1 - 10), .int (z1 - 10 + 3)]) h1
      refine ⟨r3, fun t2 h2 => ?_⟩
      have b2 := b1.1.new (o := .tup [.str "hang", .str a, .ref t1]) h2
      have m2 := b1.2.trans b2.2
      refine ⟨_, rfl, q, _, 0, .str a, rfl, rfl, hqs m2 b2.1, atI_nat (j := 0) rfl, _, rfl, r2, fun t3 h3 => ?_⟩
      have b3 := b2.1.new (o := .tup [.non, .int (z1 - 10)]) h3
      refine ⟨r3, fun t4 h4 => ?_⟩
      have b4 := b3.1.new (o := .tup [.str "hang", .str a, .ref t3]) h4
      have m4 := m2.trans (b3.2.trans b4.2)
      refine ⟨_, rfl, q, _, 0, .str a, rfl, rfl, hqs m4 b4.1, atI_nat (j := 0) rfl, r2, fun t5 h5 => ?_⟩
      have b5 := b4.1.new (o := .tup [.str "take", .str a]) h5
      refine ⟨r3, fun l1 g1 => ?_⟩
      have b6 := b5.1.new (o := .lst [.ref t2, .ref t4, .ref t5]) g1
      have m6 := m4.trans (b5.2.trans b6.2)
      refine ⟨_, rfl, _, rfl, q, _, 0, .str a, rfl, rfl, hqs m6 b6.1, atI_nat (j := 0) rfl, _, rfl, _, rfl, q, _, 1, .str b, rfl, rfl, hqs m6 b6.1, atI_nat (j := 1) rfl, _, rfl, q, _, 2, .str c, rfl, rfl, hqs m6 b6.1, atI_nat (j := 2) rfl, (by show 5 ≤ sizeLine; decide), fun t6 h6 => ?_⟩
      have b7 := b6.1.new (o := .tup [.str "split", .str a, .int (z1 - 10), .str b, .str c]) h6
      have m7 := m6.trans b7.2
      refine ⟨_, rfl, q, _, 0, .str a, rfl, rfl, hqs m7 b7.1, atI_nat (j := 0) rfl, _, rfl, q, _, 1, .str b, rfl, rfl, hqs m7 b7.1, atI_nat (j := 1) rfl, _, rfl, q, _, 2, .str c, rfl, rfl, hqs m7 b7.1, atI_nat (j := 2) rfl, (by show 4 ≤ sizeLine; decide), fun t7 h7 => ?_⟩
      have b8 := b7.1.new (o := .tup [.str "join", .str a, .str b, .str c]) h7
      refine ⟨r2, fun l2 g2 => ?_⟩
      have b9 := b8.1.new (o := .lst [.ref t6, .ref t7]) g2
      refine ⟨l1, l2, [.ref t2, .ref t4, .ref t5], [.ref t6, .ref t7], rfl, rfl, b9.1.same _ _ (b9.2 _ _ (b8.2 _ _ (b7.2 _ _ upd_same))), upd_same, (by show 5 ≤ sizeLine; decide), fun l3 g3 => ?_⟩
      have b10 := b9.1.new (o := .lst [.ref t2, .ref t4, .ref t5, .ref t6, .ref t7]) g3
      refine ⟨_, rfl, _, rfl, _, p, _, 5, rfl, b10.1, by omega, by decide, by decide, fun z H2 z0 z9 B2 => ?_⟩
      obtain ⟨v, hv, hmv⟩ := atI_in (xs := [V.ref t2, .ref t4, .ref t5, .ref t6, .ref t7]) z0 z9
      refine ⟨l3, _, z, v, rfl, rfl, SqL.of (B2.same _ _ upd_same), hv, ?_⟩
      have n10 := b10.2
      have n9 := b9.2.trans n10
      have n8 := b8.2.trans n9
      have n7 := b7.2.trans n8
      have n6 := b6.2.trans n7
      have n5 := b5.2.trans n6
      have n4 := b4.2.trans n5
      have n3 := b3.2.trans n4
      have n2 := b2.2.trans n3
      have n1 := b1.2.trans n2
      have q1 := n2 _ _ upd_same
      have q2 := n3 _ _ upd_same
      have q3 := n4 _ _ upd_same
      have q4 := n5 _ _ upd_same
      have q5 := n6 _ _ upd_same
      have q6 := n8 _ _ upd_same
      have q7 := n9 _ _ upd_same
      simp only [List.mem_cons, List.not_mem_nil, or_false] at hmv
      have gs : ∀ {s : Str}, sOk 16 s → ∀ {G : Hp}, GI K G (.str s) := fun {s} h {G} => gi_str K G h
      have gw : ∀ w ∈ (["hang", "take", "split", "join"] : List Str), sOk 16 w := by unfold sOk; decide +kernel
      rcases hmv with rfl | rfl | rfl | rfl | rfl
      · refine k _ _ t2 _ n1 B2 q2 (by simp) (by simp) fun x hx => ?_
        simp only [List.mem_cons, List.not_mem_nil, or_false] at hx
        rcases hx with rfl | rfl | rfl
        · exact gs (gw _ (by simp))
        · exact gs ga
        · exact gi_two (.inl q1)
      · refine k _ _ t4 _ n1 B2 q4 (by simp) (by simp) fun x hx => ?_
        simp only [List.mem_cons, List.not_mem_nil, or_false] at hx
        rcases hx with rfl | rfl | rfl
        · exact gs (gw _ (by simp))
        · exact gs ga
        · exact gi_non q3
      · refine k _ _ t5 _ n1 B2 q5 (by simp) (by simp) fun x hx => ?_
        simp only [List.mem_cons, List.not_mem_nil, or_false] at hx
        rcases hx with rfl | rfl
        · exact gs (gw _ (by simp))
        · exact gs ga
      · refine k _ _ t6 _ n1 B2 q6 (by simp) (by simp) fun x hx => ?_
        simp only [List.mem_cons, List.not_mem_nil, or_false] at hx
        rcases hx with rfl | rfl | rfl | rfl | rfl
        · exact gs (gw _ (by simp))
        · exact gs ga
        · exact gi_int _ _ _
        · exact gs gb
        · exact gs gc
      · refine k _ _ t7 _ n1 B2 q7 (by simp) (by simp) fun x hx => ?_
        simp only [List.mem_cons, List.not_mem_nil, or_false] at hx
        rcases hx with rfl | rfl | rfl | rfl
        · exact gs (gw _ (by simp))
        · exact gs ga
        · exact gs gb
        · exact gs gc
theorem ok_law_bent (T : Txt K mg) : FnOk P w K mg base CX0 2 T.f_law_bent T.fd_law_bent ["_law_box_here", "_law_change"] (sp_bent11 K) := by
  refine T.F_law_bent.ok sc_law_bent (fun vs H Q E h => ?_) (fun cdv A outer s H vs Q E hr h => ?_)
  · obtain ⟨H0, p, c, n, xs, rfl, _⟩ := h
    rfl
  · obtain ⟨H0, p, c, n, xs, rfl, B, hc, h0, hz, hg, hn, k⟩ := h
    refine ⟨_, (pss_cons (ps_set (i := 2) sc_law_bent.nd rfl (Or.inl rfl) (pe_callTy (T := "list") call_list_of (by rfl) T.z_list (by decide +kernel) (pa_cons (pv 1) pa_nil)))
        (pss_cons (ps_set (i := 3) sc_law_bent.nd rfl (Or.inl rfl) (pe_call (ok_law_take T) hr rfl T.m_law_take T.F_law_take.kp T.b_law_take .nil pass0 (pa_cons (pv 0) (pa_cons (pe_callB (id := "len") call_len_seq (by rfl) T.z_len (by decide +kernel) (pa_cons (pv 2) pa_nil)) pa_nil))))
        (pss_cons (ps_set (i := 4) sc_law_bent.nd rfl (Or.inl rfl) (pe_ix ix_list (pe_lst (pa_cons pe_non (pa_cons pe_int (pa_cons pe_bl (pa_cons pe_str (pa_cons pe_str (pa_cons pe_str (pa_cons pe_str (pa_cons (pe_tup (pa_cons pe_int (pa_cons pe_int pa_nil))) (pa_cons (pe_lst (pa_cons pe_int (pa_cons pe_int pa_nil))) (pa_cons (pe_tup (pa_cons pe_str pa_nil)) (pa_cons pe_str pa_nil)))))))))))) (pe_call (ok_law_take T) hr rfl T.m_law_take T.F_law_take.kp T.b_law_take .nil pass0 (pa_cons (pv 0) (pa_cons pe_int pa_nil))) (fun _ _ => rfl)))
        (pss_cons (ps_set (i := 5) sc_law_bent.nd rfl (Or.inl rfl) (pe_call (ok_law_take T) hr rfl T.m_law_take T.F_law_take.kp T.b_law_take .nil pass0 (pa_cons (pv 0) (pa_cons pe_int pa_nil))))
        (C8.pss_cut (ps_if (pt_cmpR op_eq (pv 5) pe_int (nomark _)) (pss_one (ps_asg (pv 4) (pg_sub (pv 2) (pv 3) set_list))) pss_nil)
        (C8.pss_cut (ps_if (pt_cmpR op_eq (pv 5) pe_int (nomark _)) (pss_one (ps_expr (pe_bm PySem.F.plainAttrs_list PySem.F.slot_list_pop PySem.F.type_list_pop mt_popAt (pv 2) (pa_cons (pv 3) pa_nil)))) pss_nil)
        (C8.pss_cut (ps_if (pt_cmpR op_eq (pv 5) pe_int (nomark _)) (pss_one (ps_expr (pe_bm PySem.F.plainAttrs_list PySem.F.slot_list_insert PySem.F.type_list_insert mt_insert (pv 2) (pa_cons (pv 3) (pa_cons (pv 4) pa_nil))))) pss_nil)
        (C8.pss_cut (ps_if (pt_cmpR op_eq (pv 5) pe_int (nomark _)) (pss_one (ps_asg (pe_ix ix_list (pv 2) (pe_un un_neg pe_int) (fun _ _ => rfl)) (pg_sub (pv 2) (pv 3) set_list))) pss_nil)
        (pss_one (ps_ret (pe_ix ix_list (pe_lst (pa_cons (pe_callTy (T := "tuple") call_tuple_of (by rfl) T.z_tuple (by decide +kernel) (pa_cons (pv 2) pa_nil)) (pa_cons (pv 2) pa_nil))) (pe_callTy (T := "int") call_int1 (by rfl) T.z_int (by decide +kernel) (pa_cons (pe_cmpR op_eq (pv 5) pe_int (nomark _)) pa_nil)) (fun _ _ => rfl)))))))))))), ?_⟩
    refine ⟨_, rfl, c, xs, rfl, (hc.mono B.same).elim (fun h => .inr (SqT.of h)) (fun h => .inl (SqL.of h)), fun f hf => ?_⟩
    have hfp : f ≠ p := by
      obtain ⟨_, _, _, hp, _⟩ := B.box
      exact (ne_of_none hp hf).symm
    have hf0 : H0 f = none := B.same.free hf
    have b0 := B.new (o := .lst xs) hf
    refine ⟨_, rfl, _, rfl, f, _, rfl, .inl (SqL.of (b0.1.same _ _ upd_same)), _, p, _, (xs.length : Nat), rfl, b0.1, by omega, by omega, by omega, fun z1 H1 z10 z11 b1 => ?_⟩
    refine ⟨(by show 2 ≤ sizeLine; decide), fun t1 h1 => ⟨(by show 2 ≤ sizeLine; decide), fun t2 h2 => ⟨(by show 1 ≤ sizeLine; decide), fun t3 h3 => ⟨(by show 11 ≤ sizeLine; decide), fun l1 hl1 => ?_⟩⟩⟩⟩
    have b2 := b1.new (o := .tup [.int 5, .int 5]) h1
    have b3 := b2.1.new (o := .lst [.int 1, .int 2]) h2
    have b4 := b3.1.new (o := .tup [.str "a"]) h3
    have b5 := b4.1.new (o := .lst [.non, .int 5, .bl true, .str "table", .str "", .str "A", .str "hang", .ref t1, .ref t2, .ref t3, .str "toolonger"]) hl1
    have nf2 : f ≠ t2 := ne_of_none (b2.1.same _ _ (b2.2 _ _ upd_same)) h2
    have nf1 : f ≠ t1 := ne_of_none (b1.same _ _ upd_same) h1
    have nf3 : f ≠ t3 := ne_of_none (b3.1.same _ _ (b3.2 _ _ (b2.2 _ _ upd_same))) h3
    refine ⟨_, rfl, _, p, _, 11, rfl, b5.1, by omega, by decide, by decide, fun z2 H2 z20 z21 b6 => ?_⟩
    obtain ⟨odd, hv, hmv⟩ := atI_in (xs := [V.non, .int 5, .bl true, .str "table", .str "", .str "A", .str "hang", .ref t1, .ref t2, .ref t3, .str "toolonger"]) z20 z21
    refine ⟨l1, _, z2, odd, rfl, rfl, SqL.of (b6.same _ _ upd_same), hv, ?_⟩
    refine ⟨_, rfl, _, p, _, 5, rfl, b6, by omega, by decide, by decide, fun z3 H3 z30 z31 b7 => ?_⟩
    obtain ⟨G, sG, C, hGf, hf3, hodd⟩ : ∃ G, Same H0 G ∧ BoxIn G H3 p (n + 3) ∧ G f = none ∧ H3 f = some (.lst xs) ∧ GI K G odd := by
      have m5 := b5.2
      have m4 := b4.2.trans m5
      have m3 := b3.2.trans m4
      have m2 := b2.2.trans m3
      have mA := b0.2.trans m2
      have hfG := m2 _ _ upd_same
      have q1 := m3 _ _ upd_same
      have q2 := m4 _ _ upd_same
      have q3 := m5 _ _ upd_same
      obtain ⟨sL, bL⟩ := less_ok mA b7 hf0
      refine ⟨_, sL, bL, but_same, b7.same _ _ hfG, ?_⟩
      simp only [List.mem_cons, List.not_mem_nil, or_false] at hmv
      rcases hmv with rfl | rfl | rfl | rfl | rfl | rfl | rfl | rfl | rfl | rfl | rfl
      · exact gi_none _ _
      · exact gi_int _ _ _
      · exact gi_bl _ _ _
      · exact gi_str _ _ (by unfold sOk; decide +kernel)
      · exact gi_str _ _ (by unfold sOk; decide +kernel)
      · exact gi_str _ _ (by unfold sOk; decide +kernel)
      · exact gi_str _ _ (by unfold sOk; decide +kernel)
      · exact gi_two (.inl (by rw [but_ne nf1.symm]; exact q1))
      · exact gi_two (.inr (by rw [but_ne nf2.symm]; exact q2))
      · exact gi_one (by rw [but_ne nf3.symm]; exact q3)
      · exact gi_str _ _ (by unfold sOk; decide +kernel)
    clear b0 b1 b2 b3 b4 b5 b6 b7 hmv hv hf h1 h2 h3 hl1
    have hg := fun x hx => (hg x hx).mono sG
    refine ⟨fun σ H' => ∃ (ys : List V), σ = [some (.ref p), some (.ref c), some (.ref f), some (.int z1), some odd, some (.int z3)] ∧ BoxIn G H' p (n + 3) ∧ H' f = some (.lst ys) ∧ (∀ y ∈ ys, GI K G y) ∧ ys.length ≤ xs.length + 1 ∧ (ys = xs ∨ z3 < 1), ?_, ?_⟩
    · refine ⟨_, rfl, rfl, _, rfl, ?_⟩
      refine ite2 (fun c => ?_) (fun c => ?_)
      · have c' : z3 = 0 := by simpa using c
        refine ⟨_, rfl, _, rfl, _, rfl, f, xs, z1, z1.toNat, rfl, rfl, hf3, ixN_nat z10 z11, ?_⟩
        refine ⟨_, rfl, C.mut hfp hGf, upd_same, fun y hy => ?_, by rw [List.length_set]; omega, .inr (by omega)⟩
        rcases List.mem_or_eq_of_mem_set hy with q | q
        · exact hg y q
        · rw [q]
          exact hodd
      · exact ⟨xs, rfl, C, hf3, hg, by omega, .inl rfl⟩
    rintro σ H4 ⟨ys, rfl, C, hHf, hgy, hly, hor⟩
    refine ⟨fun σ H' => ∃ (ys : List V), σ = [some (.ref p), some (.ref c), some (.ref f), some (.int z1), some odd, some (.int z3)] ∧ BoxIn G H' p (n + 3) ∧ H' f = some (.lst ys) ∧ (∀ y ∈ ys, GI K G y) ∧ ys.length ≤ xs.length + 1 ∧ (ys = xs ∨ z3 < 2), ?_, ?_⟩
    · refine ⟨_, rfl, rfl, _, rfl, ?_⟩
      refine ite2 (fun c => ?_) (fun c => ?_)
      · have c' : z3 = 1 := by simpa using c
        obtain rfl : ys = xs := by
          rcases hor with q | q
          · exact q
          · omega
        have hi : z1.toNat < ys.length := by omega
        refine ⟨_, rfl, .inl ⟨rfl, _, .inl (.inl hHf)⟩, _, rfl, f, ys, z1, z1.toNat, ys[z1.toNat], rfl, rfl, hHf, by omega, by omega, (ixN_seq (ixN_nat z10 z11)).1, List.getElem?_eq_getElem hi, ys.eraseIdx z1.toNat, rfl, C.mut hfp hGf, upd_same, fun y hy => hgy y (List.mem_of_mem_eraseIdx hy), ?_, .inr (by omega)⟩
        rw [List.length_eraseIdx]
        split <;> omega
      · exact ⟨ys, rfl, C, hHf, hgy, hly, hor.imp id fun q => by omega⟩
    clear hf3 hHf hgy hly hor C
    rintro σ H5 ⟨ys, rfl, C, hHf, hgy, hly, hor⟩
    refine ⟨fun σ H' => ∃ (ys : List V), σ = [some (.ref p), some (.ref c), some (.ref f), some (.int z1), some odd, some (.int z3)] ∧ BoxIn G H' p (n + 3) ∧ H' f = some (.lst ys) ∧ (∀ y ∈ ys, GI K G y) ∧ ys.length ≤ xs.length + 1 ∧ (ys = xs ∨ z3 < 3), ?_, ?_⟩
    · refine ⟨_, rfl, rfl, _, rfl, ?_⟩
      refine ite2 (fun c => ?_) (fun c => ?_)
      · have c' : z3 = 2 := by simpa using c
        obtain rfl : ys = xs := by
          rcases hor with q | q
          · exact q
          · omega
        refine ⟨_, rfl, .inl ⟨rfl, _, .inl (.inl hHf)⟩, _, rfl, _, rfl, f, ys, z1, odd, rfl, rfl, hHf, Nat.lt_of_lt_of_le (show ys.length < 41 by omega) (by decide), z10, by omega, ?_⟩
        refine ⟨_, rfl, C.mut hfp hGf, upd_same, fun y hy => ?_, ?_, .inr (by omega)⟩
        · rcases List.mem_append.mp hy with q | q
          · rcases List.mem_append.mp q with q | q
            · exact hgy y (List.mem_of_mem_take q)
            · rw [List.mem_singleton.mp q]
              exact hodd
          · exact hgy y (List.mem_of_mem_drop q)
        · simp only [List.length_append, List.length_take, List.length_drop, List.length_cons, List.length_nil]
          omega
      · exact ⟨ys, rfl, C, hHf, hgy, hly, hor.imp id fun q => by omega⟩
    clear hHf hgy hly hor C
    rintro σ H6 ⟨ys, rfl, C, hHf, hgy, hly, hor⟩
    refine ⟨fun σ H' => ∃ (ys : List V), σ = [some (.ref p), some (.ref c), some (.ref f), some (.int z1), some odd, some (.int z3)] ∧ BoxIn G H' p (n + 3) ∧ H' f = some (.lst ys) ∧ (∀ y ∈ ys, GI K G y) ∧ ys.length ≤ xs.length + 1, ?_, ?_⟩
    · refine ⟨_, rfl, rfl, _, rfl, ?_⟩
      refine ite2 (fun c => ?_) (fun c => ?_)
      · have c' : z3 = 3 := by simpa using c
        obtain rfl : ys = xs := by
          rcases hor with q | q
          · exact q
          · omega
        have yne : ys ≠ [] := fun e => by rw [e] at h0; exact absurd h0 (by decide)
        refine ⟨_, rfl, _, rfl, f, ys, _, _, rfl, rfl, SqL.of hHf, last_at yne, ?_⟩
        refine ⟨_, rfl, _, rfl, f, ys, z1, z1.toNat, rfl, rfl, hHf, ixN_nat z10 z11, ?_⟩
        refine ⟨_, rfl, C.mut hfp hGf, upd_same, fun y hy => ?_, by rw [List.length_set]; omega⟩
        rcases List.mem_or_eq_of_mem_set hy with q | q
        · exact hgy y q
        · rw [q]
          exact hgy _ (List.getLast_mem yne)
      · exact ⟨ys, rfl, C, hHf, hgy, hly⟩
    clear hHf hgy hly hor C
    rintro σ H7 ⟨ys, rfl, C, hHf, hgy, hly⟩
    have A := C.all
    have hfA : but H7 p f = some (.lst ys) := by rw [but_ne hfp]; exact hHf
    refine ⟨_, rfl, f, ys, rfl, .inl ⟨SqL.of hHf, fun t ht => ?_⟩⟩
    have e1 := A.1.new (o := .tup ys) ht
    refine ⟨_, rfl, (by show 2 ≤ sizeLine; decide), fun l2 h2 => ⟨_, rfl, rfl, .inr ⟨_, rfl, ?_⟩⟩⟩
    have e2 := e1.1.new (o := .lst [.ref t, .ref f]) h2
    have m := sG.trans (A.2.trans (e1.2.trans e2.2))
    by_cases c4 : decide (V.int z3 = V.int 4) = true
    · rw [if_pos c4]
      exact ⟨l2, _, 1, .ref f, rfl, rfl, SqL.of upd_same, atI_nat (j := 1) rfl, k _ _ f ys m (e2.1.mono (by omega)) (.inr (e2.2 _ _ (e1.2 _ _ hfA))) hly fun y hy => (hgy y hy).mono (A.2.trans (e1.2.trans e2.2))⟩
    · rw [if_neg c4]
      exact ⟨l2, _, 0, .ref t, rfl, rfl, SqL.of upd_same, atI_nat (j := 0) rfl, k _ _ t ys m (e2.1.mono (by omega)) (.inl (e2.2 _ _ upd_same)) hly fun y hy => (hgy y hy).mono (A.2.trans (e1.2.trans e2.2))⟩
theorem ok_law_told (T : Txt K mg) : FnOk P w K mg base CX0 7 T.f_law_told T.fd_law_told ["_law_value"] (sp_told11 K) := by
  refine T.F_law_told.ok sc_law_told (fun vs H Q E h => ?_) (fun cdv A outer s H vs Q E hr h => ?_)
  · obtain ⟨v, o, rfl, _⟩ := h
    rfl
  · obtain ⟨v, o, rfl, hx, fw, k1, k2⟩ := h
    refine ⟨_, (pss_one (ps_try_manyAs (i := 1) (n := "e") rfl rfl sc_law_told.nd rfl rfl takes0 (fun W pn xe tk _ => by exact (pss_one (ps_ret (pe_lst (pa_cons pe_str (pa_cons (pe_callS (ok_roles T) hr rfl T.m_roles T.F_roles.kp T.b_roles (fun σ => passAt tk σ) (pa_cons (pv 0) pa_nil)) pa_nil))))))
          (HdsAs.cons ⟨rfl, by decide, Or.inl T.g_InvalidChange⟩ (fun a oe cls d pn hz hf => by exact (pss_one (ps_ret (pe_lst (pa_cons pe_str (pa_cons (pe_xf T.y_InvalidChange T.n_InvalidChange hz hf (pv 1)) pa_nil)))))) HdsAs.nil))), ?_⟩
    have lk : ∀ v : V, List.lookup ("value" : Str) [(("value" : Str), v)] = some v := fun v => by simp [List.lookup]
    refine ⟨_, rfl, v, o, rfl, hx, fw, fun e d H' nd hd sm => ?_, fun ds e c p l1 l2 H' sm np n1 n2 hp h1 h2 => ?_⟩
    · exact ⟨true, T.e_InvalidChange_InvalidChange, fun _ a ha => ⟨_, rfl, rfl, rfl, d, _, v, rfl, hd, lk v, (by show 2 ≤ sizeLine; decide), fun p hp => k1 e p _ (sm.trans (same_new hp)) (sm.free hp) upd_same⟩, fun q => nomatch q⟩
    · refine ⟨(by show 2 ≤ sizeLine; decide), fun f hf => ?_⟩
      have m := same_new (o := .lst [.str "told", .ref p]) hf
      exact k2 ds e c f p l1 l2 _ (sm.trans m) (sm.free hf) np n1 n2 upd_same (m _ _ hp) (m _ _ h1) (m _ _ h2)
theorem ok_law_roles (T : Txt K mg) : FnOk P w K mg base CX0 1 T.f_law_roles T.fd_law_roles ["_law_change"] (sp_lroles K) := by
  refine T.F_law_roles.ok sc_law_roles (fun vs H Q E h => ?_) (fun cdv A outer s H vs Q E hr h => ?_)
  · obtain ⟨v, ds, rfl, _⟩ := h
    rfl
  · obtain ⟨v, ds, rfl, hx, fw, c, k⟩ := h
    refine ⟨_, (pss_cons (ps_if (pt_cmpR (op_inD (u65 hr)) (pe_ix ix_tup (pv 0) pe_int (fun _ _ => rfl)) (pe_lst (pa_cons pe_str (pa_cons pe_str pa_nil))) (by rfl)) (pss_one (ps_ret (pe_ix ix_list (pe_lst (pa_cons (pe_tup (pa_cons (pe_lst pa_nil) (pa_cons (pe_lst (pa_cons (pe_ix ix_tup (pv 0) pe_int (fun _ _ => rfl)) pa_nil)) pa_nil))) (pa_cons (pe_tup (pa_cons (pe_lst (pa_cons (pe_ix ix_tup (pv 0) pe_int (fun _ _ => rfl)) pa_nil)) (pa_cons (pe_lst pa_nil) pa_nil))) pa_nil))) (pe_callTy (T := "int") call_int1 (by rfl) T.z_int (by decide +kernel) (pa_cons (pe_cmpR (op_eqD hr.units) (pe_ix ix_tup (pv 0) pe_int (fun _ _ => rfl)) pe_str (nomark _)) pa_nil)) (fun _ _ => rfl)))) pss_nil)
        (pss_cons (ps_if (pt_cmpR (op_eqD hr.units) (pe_ix ix_tup (pv 0) pe_int (fun _ _ => rfl)) pe_str (nomark _)) (pss_one (ps_ret (pe_tup (pa_cons (pe_lst (pa_cons (pe_ix ix_tup (pv 0) pe_int (fun _ _ => rfl)) pa_nil)) (pa_cons (pe_lst (pa_cons (pe_ix ix_tup (pv 0) pe_int (fun _ _ => rfl)) (pa_cons (pe_ix ix_tup (pv 0) pe_int (fun _ _ => rfl)) pa_nil))) pa_nil))))) pss_nil)
        (pss_one (ps_ret (pe_tup (pa_cons (pe_lst (pa_cons (pe_ix ix_tup (pv 0) pe_int (fun _ _ => rfl)) (pa_cons (pe_ix ix_tup (pv 0) pe_int (fun _ _ => rfl)) pa_nil))) (pa_cons (pe_lst (pa_cons (pe_ix ix_tup (pv 0) pe_int (fun _ _ => rfl)) pa_nil)) pa_nil))))))), ?_⟩
    obtain ⟨a, xs, ds2, rfl, e2, hT, hD, sh⟩ := hx.tup_of rfl
    injection e2 with e2
    injection e2 with e2
    subst e2
    have i2 : ∀ {H' : Hp}, Same H H' → SqT K H' a xs := fun s' => same_t s' hT
    have r2 : (2 : Nat) ≤ sizeLine := by decide
    have r1 : (1 : Nat) ≤ sizeLine := by decide
    have r0 : (0 : Nat) ≤ sizeLine := by decide
    have shh : SeqAt.shaped (.list [.str "hang", .str "take"]) = true := by decide +kernel
    rcases ch_cases hD c with ⟨n, x1, d1, rfl, rfl⟩ | ⟨n, rfl, rfl⟩ | ⟨n, x1, d1, l, r, rfl, rfl⟩ | ⟨l, r, n, rfl, rfl⟩
    · rw [role_hang] at k
      refine ⟨_, rfl, a, _, 0, .str "hang", rfl, rfl, hT, atI_nat (j := 0) rfl, r2, fun q h1 => ?_⟩
      have s1 := same_new (o := .lst [.str "hang", .str "take"]) h1
      refine ⟨.str "hang", [.str "hang", .str "take"], .str _, .lst (SqL.of upd_same) (dpAll_strs ["hang", "take"]), sh4 _ (by simp), shh, _, rfl, iteTe (by decide +kernel) ?_⟩
      refine ⟨r0, fun e1 h2 => ?_⟩
      have s2 := s1.trans (same_new (o := .lst []) h2)
      refine ⟨_, rfl, a, _, 1, .str n, rfl, rfl, i2 s2, atI_nat (j := 1) rfl, r1, fun l1 h3 => ⟨r2, fun t1 h4 => ?_⟩⟩
      have u3 := same_new (o := .lst [.str n]) h3
      have u4 := same_new (o := .tup [.ref e1, .ref l1]) h4
      have s4 := s2.trans (u3.trans u4)
      refine ⟨_, rfl, a, _, 1, .str n, rfl, rfl, i2 s4, atI_nat (j := 1) rfl, r1, fun l2 h5 => ⟨r0, fun e2 h6 => ⟨r2, fun t2 h7 => ⟨r2, fun L h8 => ?_⟩⟩⟩⟩
      have u8 := (same_new (o := .lst [.str n]) h5).trans ((same_new (o := .lst []) h6).trans ((same_new (o := .tup [.ref l2, .ref e2]) h7).trans (same_new (o := .lst [.ref t1, .ref t2]) h8)))
      have s8 := s4.trans u8
      refine ⟨_, rfl, a, _, 0, .str "hang", rfl, rfl, i2 s8, atI_nat (j := 0) rfl, .str "hang", .str "take", .str _, .str _, sh4 _ (by simp), sh4 _ (by simp), .inr ⟨_, rfl, L, _, 0, .ref t1, rfl, rfl, SqL.of upd_same, atI_nat (j := 0) rfl, ?_⟩⟩
      exact k t1 e1 l1 _ s8 ((s2.trans u3).free h4) (s1.free h2) (s2.free h3) (u8 _ _ upd_same) (u8 _ _ (u4 _ _ (u3 _ _ upd_same))) (u8 _ _ (u4 _ _ upd_same))
    · rw [role_take] at k
      refine ⟨_, rfl, a, _, 0, .str "take", rfl, rfl, hT, atI_nat (j := 0) rfl, r2, fun q h1 => ?_⟩
      have s1 := same_new (o := .lst [.str "hang", .str "take"]) h1
      refine ⟨.str "take", [.str "hang", .str "take"], .str _, .lst (SqL.of upd_same) (dpAll_strs ["hang", "take"]), sh4 _ (by simp), shh, _, rfl, iteTe (by decide +kernel) ?_⟩
      refine ⟨r0, fun e1 h2 => ?_⟩
      have s2 := s1.trans (same_new (o := .lst []) h2)
      refine ⟨_, rfl, a, _, 1, .str n, rfl, rfl, i2 s2, atI_nat (j := 1) rfl, r1, fun l1 h3 => ⟨r2, fun t1 h4 => ?_⟩⟩
      have u3 := same_new (o := .lst [.str n]) h3
      have u4 := same_new (o := .tup [.ref e1, .ref l1]) h4
      have s4 := s2.trans (u3.trans u4)
      refine ⟨_, rfl, a, _, 1, .str n, rfl, rfl, i2 s4, atI_nat (j := 1) rfl, r1, fun l2 h5 => ⟨r0, fun e2 h6 => ⟨r2, fun t2 h7 => ⟨r2, fun L h8 => ?_⟩⟩⟩⟩
      have u5 := same_new (o := .lst [.str n]) h5
      have u6 := same_new (o := .lst []) h6
      have u7 := same_new (o := .tup [.ref l2, .ref e2]) h7
      have u8 := same_new (o := .lst [.ref t1, .ref t2]) h8
      have s8 := s4.trans (u5.trans (u6.trans (u7.trans u8)))
      refine ⟨_, rfl, a, _, 0, .str "take", rfl, rfl, i2 s8, atI_nat (j := 0) rfl, .str "take", .str "take", .str _, .str _, sh4 _ (by simp), sh4 _ (by simp), .inr ⟨_, rfl, L, _, 1, .ref t2, rfl, rfl, SqL.of upd_same, atI_nat (j := 1) rfl, ?_⟩⟩
      exact k t2 l2 e2 _ s8 ((s4.trans (u5.trans u6)).free h7) (s4.free h5) ((s4.trans u5).free h6) (u8 _ _ upd_same) (u8 _ _ (u7 _ _ (u6 _ _ upd_same))) (u8 _ _ (u7 _ _ upd_same))
    · rw [role_split] at k
      refine ⟨_, rfl, a, _, 0, .str "split", rfl, rfl, hT, atI_nat (j := 0) rfl, r2, fun q h1 => ?_⟩
      have s1 := same_new (o := .lst [.str "hang", .str "take"]) h1
      refine ⟨.str "split", [.str "hang", .str "take"], .str _, .lst (SqL.of upd_same) (dpAll_strs ["hang", "take"]), sh4 _ (by simp), shh, _, rfl, iteFe (by decide +kernel) ?_⟩
      refine ⟨_, rfl, a, _, 0, .str "split", rfl, rfl, i2 s1, atI_nat (j := 0) rfl, .str "split", .str "split", .str _, .str _, sh4 _ (by simp), sh4 _ (by simp), _, rfl, iteTe (by decide +kernel) ?_⟩
      refine ⟨_, rfl, a, _, 1, .str n, rfl, rfl, i2 s1, atI_nat (j := 1) rfl, r1, fun l1 h3 => ?_⟩
      have u3 := same_new (o := .lst [.str n]) h3
      have s3 := s1.trans u3
      refine ⟨_, rfl, a, _, 3, .str l, rfl, rfl, i2 s3, atI_nat (j := 3) rfl, _, rfl, a, _, 4, .str r, rfl, rfl, i2 s3, atI_nat (j := 4) rfl, r2, fun l2 h4 => ⟨r2, fun p h5 => ?_⟩⟩
      have u4 := same_new (o := .lst [.str l, .str r]) h4
      exact roles_fin k s1 (u3.trans u4) (u4 _ _ upd_same) upd_same h5 (s1.free h3) (s3.free h4)
    · rw [role_join] at k
      refine ⟨_, rfl, a, _, 0, .str "join", rfl, rfl, hT, atI_nat (j := 0) rfl, r2, fun q h1 => ?_⟩
      have s1 := same_new (o := .lst [.str "hang", .str "take"]) h1
      refine ⟨.str "join", [.str "hang", .str "take"], .str _, .lst (SqL.of upd_same) (dpAll_strs ["hang", "take"]), sh4 _ (by simp), shh, _, rfl, iteFe (by decide +kernel) ?_⟩
      refine ⟨_, rfl, a, _, 0, .str "join", rfl, rfl, i2 s1, atI_nat (j := 0) rfl, .str "join", .str "split", .str _, .str _, sh4 _ (by simp), sh4 _ (by simp), _, rfl, iteFe (by decide +kernel) ?_⟩
      refine ⟨_, rfl, a, _, 1, .str l, rfl, rfl, i2 s1, atI_nat (j := 1) rfl, _, rfl, a, _, 2, .str r, rfl, rfl, i2 s1, atI_nat (j := 2) rfl, r2, fun l1 h3 => ?_⟩
      have u3 := same_new (o := .lst [.str l, .str r]) h3
      have s3 := s1.trans u3
      refine ⟨_, rfl, a, _, 3, .str n, rfl, rfl, i2 s3, atI_nat (j := 3) rfl, r1, fun l2 h4 => ⟨r2, fun p h5 => ?_⟩⟩
      have u4 := same_new (o := .lst [.str n]) h4
      exact roles_fin k s1 (u3.trans u4) (u4 _ _ upd_same) upd_same h5 (s1.free h3) (s3.free h4)
theorem ok_law (T : Txt K mg) : FnOk P w K mg base CX0 8 T.f_law T.fd_law ["_law_script"] (sp_law K) := by
  refine T.F_law.ok sc_law (fun vs H Q E h => ?_) (fun cdv A outer s H vs Q E hr h => ?_)
  · obtain ⟨a, ns, rfl, _⟩ := h
    rfl
  · obtain ⟨a, ns, rfl, hS, hlen, k⟩ := h
    refine ⟨_, (pss_cons (ps_for PassesOwn.never rfl (pi_range1 rfl T.z_range (pa_cons (pe_callB (id := "max") (call_max2 rfl) (by rfl) T.z_max (by decide +kernel) (pa_cons pe_int (pa_cons (pe_callB (id := "min") (call_min2 rfl) (by rfl) T.z_min (by decide +kernel) (pa_cons pe_int (pa_cons (pe_callB (id := "len") call_len_seq (by rfl) T.z_len (by decide +kernel) (pa_cons (pv 0) pa_nil)) pa_nil))) pa_nil))) pa_nil)) (pg_name (i := 1) sc_law.nd rfl (Or.inl rfl))
          (pss_cons (ps_set (i := 2) sc_law.nd rfl (Or.inl rfl) (pe_call (ok_law_box T) (hr.mono (by decide)) rfl T.m_law_box T.F_law_box.kp T.b_law_box .nil pass0 (pa_cons (pe_call (ok_law_cell T) (hr.mono (by decide)) rfl T.m_law_cell T.F_law_cell.kp T.b_law_cell .nil pass0 (pa_cons (pv 0) (pa_cons (pv 1) pa_nil))) pa_nil)))
        (pss_cons (ps_set (i := 3) sc_law.nd rfl (Or.inl rfl) (pe_call (ok_law_right T) (hr.mono (by decide)) rfl T.m_law_right T.F_law_right.kp T.b_law_right .nil pass0 (pa_cons (pv 2) (pa_cons (pe_call (ok_law_names T) (hr.mono (by decide)) rfl T.m_law_names T.F_law_names.kp T.b_law_names .nil pass0 (pa_cons (pv 2) (pa_cons pe_int pa_nil))) pa_nil))))
        (pss_cons (ps_set (i := 4) sc_law.nd rfl (Or.inl rfl) (pe_lst (pa_cons (pv 3) (pa_cons (pe_call (ok_law_bent T) (hr.mono (by decide)) rfl T.m_law_bent T.F_law_bent.kp T.b_law_bent .nil pass0 (pa_cons (pv 2) (pa_cons (pv 3) pa_nil))) (pa_cons (pe_call (ok_law_bent T) (hr.mono (by decide)) rfl T.m_law_bent T.F_law_bent.kp T.b_law_bent .nil pass0 (pa_cons (pv 2) (pa_cons (pe_orT (pe_call (ok_law_bent T) (hr.mono (by decide)) rfl T.m_law_bent T.F_law_bent.kp T.b_law_bent .nil pass0 (pa_cons (pv 2) (pa_cons (pv 3) pa_nil))) (pe_one (pe_tup (pa_cons pe_int pa_nil)))) pa_nil))) (pa_cons (pe_tup pa_nil) pa_nil))))))
        (pss_cons (ps_expr (pe_bm PySem.F.plainAttrs_list PySem.F.slot_list_append PySem.F.type_list_append mt_append (pv 4) (pa_cons (pe_ix ix_list (pe_lst (pa_cons pe_non (pa_cons pe_int (pa_cons pe_str (pa_cons (pe_lst (pa_cons pe_str (pa_cons pe_str pa_nil))) (pa_cons pe_dnewK (pa_cons (pe_tup (pa_cons (pe_tup (pa_cons pe_str pa_nil)) pa_nil)) (pa_cons (pe_tup (pa_cons pe_str pa_nil)) pa_nil)))))))) (pe_call (ok_law_take T) (hr.mono (by decide)) rfl T.m_law_take T.F_law_take.kp T.b_law_take .nil pass0 (pa_cons (pv 2) (pa_cons pe_int pa_nil))) (fun _ _ => rfl)) pa_nil)))
        (pss_one (ps_for PassesOwn.never rfl (pi_list (pv 4)) (pg_name (i := 5) sc_law.nd rfl (Or.inl rfl))
          (pss_cons (ps_set (i := 6) sc_law.nd rfl (Or.inl rfl) (pe_call (ok_law_is_change T) (hr.mono (by decide)) rfl T.m_law_is_change T.F_law_is_change.kp T.b_law_is_change .nil pass0 (pa_cons (pv 5) pa_nil)))
        (pss_cons (ps_set (i := 7) sc_law.nd rfl (Or.inl rfl) (pe_call (ok_is_change T) (hr.mono (by decide)) rfl T.m_is_change T.F_is_change.kp T.b_is_change .nil pass0 (pa_cons (pv 5) pa_nil)))
        (pss_cons (ps_if (PW.pt (pw_or (pt_not (pt_val (pe_callB (id := "isinstance") call_isi (by rfl) T.z_isinstance (by decide +kernel) (pa_cons (pv 7) (pa_cons (pe_bltn (v := .ty "bool") (u := .type "bool") (by rfl) T.z_bool (by decide +kernel) rfl) pa_nil))))) (pw_or1 (pt_cmpR op_ne (pv 7) (pv 6) (nomark _))))) (pss_one (ps_ret pe_bl)) pss_nil)
        (pss_cons (ps_set (i := 8) sc_law.nd rfl (Or.inl rfl) (pe_call (ok_law_told T) hr rfl T.m_law_told T.F_law_told.kp T.b_law_told .nil pass0 (pa_cons (pv 5) pa_nil)))
        (pss_cons (ps_if (pt_cmpR (op_neU hr.units) (pv 8) (pe_ifExp (pt_val (pv 6)) (pe_lst (pa_cons pe_str (pa_cons (pe_call (ok_law_roles T) (hr.mono (by decide)) rfl T.m_law_roles T.F_law_roles.kp T.b_law_roles .nil pass0 (pa_cons (pv 5) pa_nil)) pa_nil))) (pe_lst (pa_cons pe_str (pa_cons (pv 5) pa_nil)))) (nomark _)) (pss_one (ps_ret pe_bl)) pss_nil)
        (pss_one (ps_if (pt_val (pv 6)) (pss_cons (ps_expr (pe_bm PySem.F.plainAttrs_list PySem.F.slot_list_append PySem.F.type_list_append mt_append (pe_ix ix_tup (pe_ix ix_list (pv 8) pe_int (fun _ _ => rfl)) pe_int (fun _ _ => rfl)) (pa_cons pe_str pa_nil)))
        (pss_one (ps_if (pt_cmpR (op_neD hr.units) (pe_call (ok_roles T) (hr.mono (by decide)) rfl T.m_roles T.F_roles.kp T.b_roles .nil passL (pa_cons (pv 5) pa_nil)) (pe_call (ok_law_roles T) (hr.mono (by decide)) rfl T.m_law_roles T.F_law_roles.kp T.b_law_roles .nil pass0 (pa_cons (pv 5) pa_nil)) (nomark _)) (pss_one (ps_ret pe_bl)) pss_nil))) pss_nil))))))))))))))
        (pss_one (ps_ret pe_bl))), ?_⟩
    refine ⟨_, rfl, a, _, rfl, .inl hS, _, _, rfl, _, _, rfl, _, rfl, ?_, ?_, for_range (fun i σ H' => ∃ v1 v2 v3 v4 v5 v6 v7 v8, σ = [some (.ref a), v1, v2, v3, v4, v5, v6, v7, v8] ∧ Same H H') ⟨none, none, none, none, none, none, none, none, rfl, Same.refl H⟩ ?_ ?_⟩
    · repeat' split
      all_goals omega
    · repeat' split
      all_goals omega
    · rintro i σ H1 hi ⟨v1, v2, v3, v4, v5, v6, v7, v8, rfl, s1⟩
      refine ⟨_, rfl, _, rfl, a, ns, _, rfl, s1.seq hS, (by omega), fun z => ⟨z, rfl, fun p o hp bx => ?_⟩⟩
      have B : BoxIn H1 (upd H1 p o) p 0 := ⟨same_new hp, hp, bx⟩
      refine ⟨_, rfl, _, rfl, H1, p, 0, 3, rfl, B, by decide, by decide, fun q H2 ss s2 hq0 hqp hq hlen3 hok B2 => ?_⟩
      have B3 := B2.all.1
      have m3 := B2.all.2
      refine ⟨_, p, q, _, ss, rfl, B3, (by rw [but_ne hqp]; exact hq), hlen3, hok, by decide, fun G1 H3 c xs sG1 B4 hc hx0 hx5 hgx => ?_⟩
      have t1 : Same H1 G1 := m3.trans sG1
      clear B B2 B3 m3 hq
      refine ⟨_, rfl, _, rfl, _, rfl, G1, p, c, _, xs, rfl, B4, .inl hc, hx0, by omega, hgx, by decide, fun G2 H4 c2 ys sG2 B5 hc2 hy hgy => ?_⟩
      refine ⟨_, rfl, _, rfl, _, rfl, G2, p, c, _, xs, rfl, B5, .inl (sG2 _ _ hc), hx0, by omega, (fun x hx => (hgx x hx).mono sG2), by decide, fun G3 H5 c3 zs sG3 B6 hc3 hz hgz => ⟨!zs.isEmpty, ?_, ?_⟩⟩
      · rcases hc3 with h | h
        · exact .inr (.inl ⟨zs, SqT.of (B6.same _ _ h), rfl⟩)
        · exact .inl ⟨zs, SqL.of (B6.same _ _ h), rfl⟩
      refine or_one (K := K) (fun x H' => ∃ G c' ws, x = .ref c' ∧ Same G2 G ∧ BoxIn G H' p 100 ∧ SeqC G c' ws ∧ 0 < ws.length ∧ ws.length ≤ 20 ∧ ∀ w ∈ ws, GI K G w) ?_ (fun e => ?_) (fun e t ht => ?_)
      · rintro _ H6 ⟨G, c', ws, rfl, sG, B7, hcw, hw0, hw20, hgw⟩
        refine ⟨G, p, c', _, ws, rfl, B7, hcw, hw0, by omega, hgw, by decide, fun G4 H7 c4 us sG4 B8 hc4 hu hgu => ?_⟩
        have r1 : (1 : Nat) ≤ sizeLine := by decide
        refine ⟨(by show 0 ≤ sizeLine; decide), fun t0 h0 => ⟨(by show 4 ≤ sizeLine; decide), fun lv hlv => ?_⟩⟩
        have b1 := B8.new (o := .tup []) h0
        have b2 := b1.1.new (o := .lst [.ref c, .ref c2, .ref c4, .ref t0]) hlv
        have hl5 := b1.1.same.free hlv
        refine ⟨_, rfl, .inl ⟨rfl, _, .inl (.inl upd_same)⟩, (by show 2 ≤ sizeLine; decide), fun e1 h1 => ?_⟩
        have b3 := b2.1.new (o := .lst [.str "take", .str "a"]) h1
        have l1 : lv ≠ e1 := ne_of_none (b2.1.same _ _ upd_same) h1
        intro e2 h2
        have b4 := b3.1.new (o := .dK []) h2
        have l2 : lv ≠ e2 := ne_of_none (b3.1.same _ _ (b3.2 _ _ upd_same)) h2
        refine ⟨r1, fun e3 h3 => ?_⟩
        have b5 := b4.1.new (o := .tup [.str "take"]) h3
        have l3 : lv ≠ e3 := ne_of_none (b4.1.same _ _ (b4.2 _ _ (b3.2 _ _ upd_same))) h3
        refine ⟨r1, fun e4 h4 => ?_⟩
        have b6 := b5.1.new (o := .tup [.ref e3]) h4
        have l4 : lv ≠ e4 := ne_of_none (b5.1.same _ _ (b5.2 _ _ (b4.2 _ _ (b3.2 _ _ upd_same)))) h4
        refine ⟨r1, fun e5 h5 => ?_⟩
        have b7 := b6.1.new (o := .tup [.str "take"]) h5
        have l5 : lv ≠ e5 := ne_of_none (b6.1.same _ _ (b6.2 _ _ (b5.2 _ _ (b4.2 _ _ (b3.2 _ _ upd_same))))) h5
        refine ⟨(by show 7 ≤ sizeLine; decide), fun e6 h6 => ?_⟩
        have b8 := b7.1.new (o := .lst [.non, .int 5, .str "hang", .ref e1, .ref e2, .ref e4, .ref e5]) h6
        refine ⟨_, rfl, _, p, _, 7, rfl, b8.1, by decide, by decide, by decide, fun z2 H8 z20 z29 B9 => ?_⟩
        obtain ⟨odd, hv, hmv⟩ := atI_in (xs := [V.non, .int 5, .str "hang", .ref e1, .ref e2, .ref e4, .ref e5]) z20 z29
        have n8 := b8.2
        have n7 := b7.2.trans n8
        have n6 := b6.2.trans n7
        have n5 := b5.2.trans n6
        have n4 := b4.2.trans n5
        have n3 := b3.2.trans n4
        have n2 := b2.2.trans n3
        have hlvp : lv ≠ p := by
          obtain ⟨_, _, _, hp, _⟩ := b1.1.box
          exact (ne_of_none hp hlv).symm
        have hlv8 := B9.same _ _ (n3 _ _ upd_same)
        refine ⟨e6, _, z2, odd, rfl, rfl, SqL.of (B9.same _ _ upd_same), hv, lv, _, odd, rfl, rfl, hlv8, (by show 4 < sizeLine; decide), ?_⟩
        obtain ⟨Gf, sf, Bf, each⟩ : ∃ Gf, Same H1 Gf ∧ BoxIn Gf (upd H8 lv (.lst ([.ref c, .ref c2, .ref c4, .ref t0] ++ [odd]))) p 200 ∧ ∀ x ∈ ([.ref c, .ref c2, .ref c4, .ref t0] ++ [odd] : List V), ValC K Gf x := by
          obtain ⟨sL, bL⟩ := less_ok n2 B9 hl5
          have a4 := b1.2.trans sL
          have aG := sG4.trans a4
          have a2 := sG.trans aG
          have a1 := sG2.trans a2
          have w1 := (but_ne l1.symm).trans (n4 _ _ upd_same)
          have w2 := (but_ne l2.symm).trans (n5 _ _ upd_same)
          have w3 := (but_ne l3.symm).trans (n6 _ _ upd_same)
          have w4 := (but_ne l4.symm).trans (n7 _ _ upd_same)
          have w5 := (but_ne l5.symm).trans (n8 _ _ upd_same)
          refine ⟨_, t1.trans a1, (bL.mut hlvp but_same).mono (by decide), fun x hx => ?_⟩
          rcases List.mem_append.mp hx with hx | hx
          · simp only [List.mem_cons, List.not_mem_nil, or_false] at hx
            rcases hx with rfl | rfl | rfl | rfl
            · exact (seq_val (.inl hc) hgx (by omega)).mono a1
            · exact (seq_val hc2 hgy (by omega)).mono a2
            · exact (seq_val hc4 hgu (by omega)).mono a4
            · exact seq_val (xs := []) (.inl (sL _ _ upd_same)) (fun x h => by cases h) (by decide)
          · rw [List.mem_singleton.mp hx]
            simp only [List.mem_cons, List.not_mem_nil, or_false] at hmv
            rcases hmv with rfl | rfl | rfl | rfl | rfl | rfl | rfl
            · exact vc_non _ _
            · exact vc_int _ _ _
            · exact vc_hang _ _
            · refine seq_val (xs := [.str "take", .str "a"]) (.inr w1) (fun x h => ?_) (by decide)
              simp only [List.mem_cons, List.not_mem_nil, or_false] at h
              rcases h with rfl | rfl
              all_goals exact gi_str _ _ (by unfold sOk; decide +kernel)
            · exact vc_dic w2
            · refine seq_val (xs := [.ref e3]) (.inl w4) (fun x h => ?_) (by simp)
              rw [List.mem_singleton.mp h]
              exact gi_seq1 w3
            · refine seq_val (xs := [.str "take"]) (.inl w5) (fun x h => ?_) (by decide)
              rw [List.mem_singleton.mp h]
              exact gi_str _ _ (by unfold sOk; decide +kernel)
        have hlv9 : upd H8 lv (.lst ([.ref c, .ref c2, .ref c4, .ref t0] ++ [odd])) lv = some (.lst ([.ref c, .ref c2, .ref c4, .ref t0] ++ [odd])) := upd_same
        have sV := Bf.same
        have s9 : Same H _ := s1.trans (sf.trans sV)
        clear Bf sf b1 b2 b3 b4 b5 b6 b7 b8 B9 B7 B8 n2 n3 n4 n5 n6 n7 n8 hlv8 hv hmv hlv h0 h1 h2 h3 h4 h5 h6
        generalize upd H8 lv (.lst ([.ref c, .ref c2, .ref c4, .ref t0] ++ [odd])) = H9 at hlv9 sV s9
        refine ⟨_, rfl, lv, rfl, ⟨_, SqL.of hlv9⟩, for_list (K := K) (a := lv) (xs := [.ref c, .ref c2, .ref c4, .ref t0] ++ [odd]) (fun j σ H' => ∃ v5 v6 v7 v8 : Option V, σ = [some (.ref a), some (.int (0 + (i : Int))), some (.ref p), some (.ref c), some (.ref lv), v5, v6, v7, v8] ∧ Same H9 H') ⟨v5, v6, v7, v8, rfl, Same.refl _⟩ (fun j σ H' _ ⟨_, _, _, _, _, s⟩ => SqL.of (s _ _ hlv9)) ?_ ?_⟩
        · rintro j x σ H10 hx ⟨v5, v6, v7, v8, rfl, s10⟩
          obtain ⟨o, vd, fw⟩ := each x (List.mem_of_getElem? hx)
          have vd := vd.mono sV
          refine ⟨_, rfl, x, o, rfl, vd.mono s10, fw, fun H11 s11 => ?_⟩
          refine ⟨_, rfl, x, o, rfl, vd.mono (s10.trans s11), fw, fun H12 s12 => ?_⟩
          have t12 := s10.trans (s11.trans s12)
          have vd := vd.mono t12
          refine ⟨_, rfl, _, _, _, _, _, rfl, .ty _, .base (.bl _), kit_ty (r := true) (by decide +kernel), _, rfl, iteF ?_⟩
          refine ⟨_, rfl, _, rfl, rfl, _, rfl, iteFe (by simp) ?_⟩
          refine ⟨_, rfl, x, o, rfl, vd, fw, fun e f H13 s13 nf hf => ?_, fun ds eo ec f p1 l1 l2 H13 s13 nf np n1 n2 hf hp1 h1 h2 => ?_⟩
          · refine ⟨_, rfl, _, rfl, _, rfl, iteFe e ⟨_, rfl, (by show 2 ≤ sizeLine; decide), fun g hg => .inl ⟨f, g, [.str "change", x], rfl, rfl, SqL.of ((same_new hg) _ _ hf), SqL.of upd_same, sure2 (vd_sure vd), _, rfl, iteF ?_⟩⟩⟩
            exact ⟨_, rfl, _, rfl, iteFe e ⟨_, _, _, _, rfl, t12.trans (s13.trans (same_new hg))⟩⟩
          · subst eo
            have ec' : chO (some (.tuple ds)) = true := ec
            obtain ⟨xs', D', sh'⟩ : ∃ xs', DpAll K H12 xs' ds ∧ SeqAt.shaped (.tuple ds) = true := by
              obtain ⟨_, xs', _, _, e2, _, h, sh'⟩ := vd.tup_of rfl
              injection e2 with e2
              injection e2 with e2
              subst e2
              exact ⟨xs', h, sh'⟩
            have ok := role_ok D' ec sh'
            have can := two_can ok.1 ok.2
            have rl := role_len D' ec
            refine ⟨_, rfl, _, rfl, _, rfl, iteTe ec' ⟨_, rfl, x, ds, rfl, vd.mono s13, fw, ec, fun p2 m1 m2 H14 s14 np2 nm1 nm2 hp2 hm1 hm2 => ⟨(by show 2 ≤ sizeLine; decide), fun g hg => .inr ?_⟩⟩⟩
            have sg := same_new (o := .lst [.str "told", .ref p2]) hg
            have s15 := s14.trans sg
            refine ⟨.list [.str "told", twoD (roleD ds)], .list [.str "told", twoD (roleD ds)], .lst (SqL.of (s15 _ _ hf)) (.cons (.str _) (.cons (dp_two_l (s15 _ _ hp1) (s15 _ _ h1) (s15 _ _ h2)) .nil)), .lst (SqL.of upd_same) (.cons (.str _) (.cons (dp_two_l (sg _ _ hp2) (sg _ _ hm1) (sg _ _ hm2)) .nil)), told_can can, told_can can, _, rfl, iteFe (by rw [SeqAt.eqv_refl _ (shaped_iff.mp (told_can can)).1]; rfl) ?_⟩
            refine ⟨_, rfl, _, rfl, iteTe ec' ?_⟩
            have l15 := s15 _ _ h1
            refine ⟨_, rfl, f, _, 1, .ref p1, rfl, rfl, SqL.of (s15 _ _ hf), atI_nat (j := 1) rfl, p1, _, 0, .ref l1, rfl, rfl, SqT.of (s15 _ _ hp1), atI_nat (j := 0) rfl, .inl ⟨rfl, _, .inl (.inl l15)⟩, l1, _, .str "late", rfl, rfl, l15, ?_, ?_⟩
            · rw [List.length_map]
              exact Nat.lt_of_le_of_lt rl (by decide)
            have s16 : Same H12 (upd (upd H14 g (.lst [.str "told", .ref p2])) l1 (.lst ((roleD ds).1.map V.str ++ [.str "late"]))) := fun b u eb => by
              rw [upd_ne (ne_of_none eb n1)]
              exact s15 _ _ (s13 _ _ eb)
            refine ⟨_, rfl, x, some (.tuple ds), rfl, vd.mono s16, fw, (fun e => by rw [ec'] at e; cases e), fun ds2 e2 c2' p3 l3 l4 H17 s17 np3 n3 n4 hp3 h3 h4 => ⟨_, rfl, x, ds, rfl, vd.mono (s16.trans s17), fw, ec, fun p5 l5 l6 H18 s18 np5 n5 n6 hp5 h5 h6 => ?_⟩⟩
            injection e2 with e2
            injection e2 with e2
            subst e2
            refine ⟨twoD (roleD ds), twoD (roleD ds), dp_two_l (s18 _ _ hp3) (s18 _ _ h3) (s18 _ _ h4), dp_two_l hp5 h5 h6, shaped_iff.mpr ⟨can.1, by have := can.2; omega⟩, shaped_iff.mpr ⟨can.1, by have := can.2; omega⟩, _, rfl, iteFe (by rw [SeqAt.eqv_refl _ can.1]; rfl) ?_⟩
            exact ⟨_, _, _, _, rfl, t12.trans (s16.trans (s17.trans s18))⟩
        · rintro σ H10 ⟨v5, v6, v7, v8, rfl, s10⟩
          exact ⟨_, _, _, _, _, _, _, _, rfl, s9.trans s10⟩
      · refine ⟨G3, c3, zs, rfl, sG3, B6.mono (by decide), hc3, ?_, by omega, hgz⟩
        cases zs with
        | nil => cases e
        | cons y r => simp
      · have b := B6.new (o := .tup [.int 1]) ht
        refine ⟨_, t, [.int 1], rfl, sG3.trans b.2, b.1.mono (by decide), .inl upd_same, by decide, by decide, fun w hw => ?_⟩
        rw [List.mem_singleton.mp hw]
        exact gi_int _ _ _
    · rintro σ H1 ⟨v1, v2, v3, v4, v5, v6, v7, v8, rfl, s1⟩
      exact k H1
end
theorem all_mk {l : PySem.W.OpenLaw} {w : World} {K : PySem.W.Frag} {h : Heap} {mg : Str → Option Value} {fa f0 f1 f2 f3 f4 f5 f6 f7 f8 f9 f10 f11 f12 f13 f14 f15 f16 f17 f18 f19 f20 f21 f22 : Addr} {C_PartsError : Addr} {C_InvalidChange : Addr} (X : K.In h) (G : h.Ns mainGlobals mg) (hfa : mg "law" = some (.ref fa))
    {od0 an0 : Option Addr} {sl0 : Array (Option Value)} {oc0 kV0 dc0 pm0 cd0 ct0 : Value}
    (a0 : PySem.W.findIn K (.ref C_InvalidChange) "__init__" = some (some (.ref f0))) (l0 : K.lookup f0 = some ⟨oc0, od0, .func (PySem.W.fnOf "__init__" "InvalidChange.__init__" (defArgs s_InvalidChange_init) (defBody s_InvalidChange_init) (defScope s_InvalidChange_init) .none kV0 dc0 pm0 an0 cd0 ct0), sl0⟩) (c0 : PySem.W.codeIn K cd0 "InvalidChange.__init__" = true) (k0 : PySem.W.keepIn K (.ref f0) = true)
    {od1 an1 : Option Addr} {sl1 : Array (Option Value)} {oc1 kV1 dc1 pm1 cd1 ct1 : Value}
    (a1 : PySem.W.nsIn K mainGlobals "is_integer" = some (some (.ref f1))) (l1 : K.lookup f1 = some ⟨oc1, od1, .func (PySem.W.fnOf "is_integer" "is_integer" (defArgs s_is_integer) (defBody s_is_integer) (defScope s_is_integer) .none kV1 dc1 pm1 an1 cd1 ct1), sl1⟩) (c1 : PySem.W.codeIn K cd1 "is_integer" = true) (k1 : PySem.W.keepIn K (.ref f1) = true)
    {od2 an2 : Option Addr} {sl2 : Array (Option Value)} {oc2 kV2 dc2 pm2 cd2 ct2 : Value}
    (a2 : PySem.W.nsIn K mainGlobals "is_name" = some (some (.ref f2))) (l2 : K.lookup f2 = some ⟨oc2, od2, .func (PySem.W.fnOf "is_name" "is_name" (defArgs s_is_name) (defBody s_is_name) (defScope s_is_name) .none kV2 dc2 pm2 an2 cd2 ct2), sl2⟩) (c2 : PySem.W.codeIn K cd2 "is_name" = true) (k2 : PySem.W.keepIn K (.ref f2) = true)
    {od3 an3 : Option Addr} {sl3 : Array (Option Value)} {oc3 kV3 dc3 pm3 cd3 ct3 : Value}
    (a3 : PySem.W.nsIn K mainGlobals "is_span" = some (some (.ref f3))) (l3 : K.lookup f3 = some ⟨oc3, od3, .func (PySem.W.fnOf "is_span" "is_span" (defArgs s_is_span) (defBody s_is_span) (defScope s_is_span) .none kV3 dc3 pm3 an3 cd3 ct3), sl3⟩) (c3 : PySem.W.codeIn K cd3 "is_span" = true) (k3 : PySem.W.keepIn K (.ref f3) = true)
    {od4 an4 : Option Addr} {sl4 : Array (Option Value)} {oc4 kV4 dc4 pm4 cd4 ct4 : Value}
    (a4 : PySem.W.nsIn K mainGlobals "is_limit" = some (some (.ref f4))) (l4 : K.lookup f4 = some ⟨oc4, od4, .func (PySem.W.fnOf "is_limit" "is_limit" (defArgs s_is_limit) (defBody s_is_limit) (defScope s_is_limit) .none kV4 dc4 pm4 an4 cd4 ct4), sl4⟩) (c4 : PySem.W.codeIn K cd4 "is_limit" = true) (k4 : PySem.W.keepIn K (.ref f4) = true)
    {od5 an5 : Option Addr} {sl5 : Array (Option Value)} {oc5 kV5 dc5 pm5 cd5 ct5 : Value}
    (a5 : PySem.W.nsIn K mainGlobals "is_change" = some (some (.ref f5))) (l5 : K.lookup f5 = some ⟨oc5, od5, .func (PySem.W.fnOf "is_change" "is_change" (defArgs s_is_change) (defBody s_is_change) (defScope s_is_change) .none kV5 dc5 pm5 an5 cd5 ct5), sl5⟩) (c5 : PySem.W.codeIn K cd5 "is_change" = true) (k5 : PySem.W.keepIn K (.ref f5) = true)
    {od6 an6 : Option Addr} {sl6 : Array (Option Value)} {oc6 kV6 dc6 pm6 cd6 ct6 : Value}
    (a6 : PySem.W.nsIn K mainGlobals "are_different_names" = some (some (.ref f6))) (l6 : K.lookup f6 = some ⟨oc6, od6, .func (PySem.W.fnOf "are_different_names" "are_different_names" (defArgs s_are_different_names) (defBody s_are_different_names) (defScope s_are_different_names) .none kV6 dc6 pm6 an6 cd6 ct6), sl6⟩) (c6 : PySem.W.codeIn K cd6 "are_different_names" = true) (k6 : PySem.W.keepIn K (.ref f6) = true)
    {od7 an7 : Option Addr} {sl7 : Array (Option Value)} {oc7 kV7 dc7 pm7 cd7 ct7 : Value}
    (a7 : PySem.W.nsIn K mainGlobals "require_change" = some (some (.ref f7))) (l7 : K.lookup f7 = some ⟨oc7, od7, .func (PySem.W.fnOf "require_change" "require_change" (defArgs s_require_change) (defBody s_require_change) (defScope s_require_change) .none kV7 dc7 pm7 an7 cd7 ct7), sl7⟩) (c7 : PySem.W.codeIn K cd7 "require_change" = true) (k7 : PySem.W.keepIn K (.ref f7) = true)
    {od8 an8 : Option Addr} {sl8 : Array (Option Value)} {oc8 kV8 dc8 pm8 cd8 ct8 : Value}
    (a8 : PySem.W.nsIn K mainGlobals "roles" = some (some (.ref f8))) (l8 : K.lookup f8 = some ⟨oc8, od8, .func (PySem.W.fnOf "roles" "roles" (defArgs s_roles) (defBody s_roles) (defScope s_roles) .none kV8 dc8 pm8 an8 cd8 ct8), sl8⟩) (c8 : PySem.W.codeIn K cd8 "roles" = true) (k8 : PySem.W.keepIn K (.ref f8) = true)
    {od9 an9 : Option Addr} {sl9 : Array (Option Value)} {oc9 kV9 dc9 pm9 cd9 ct9 : Value}
    (a9 : PySem.W.nsIn K mainGlobals "_law_cell" = some (some (.ref f9))) (l9 : K.lookup f9 = some ⟨oc9, od9, .func (PySem.W.fnOf "_law_cell" "_law_cell" (defArgs s_law_cell) (defBody s_law_cell) (defScope s_law_cell) .none kV9 dc9 pm9 an9 cd9 ct9), sl9⟩) (c9 : PySem.W.codeIn K cd9 "_law_cell" = true) (k9 : PySem.W.keepIn K (.ref f9) = true)
    {od10 an10 : Option Addr} {sl10 : Array (Option Value)} {oc10 kV10 dc10 pm10 cd10 ct10 : Value}
    (a10 : PySem.W.nsIn K mainGlobals "_law_box" = some (some (.ref f10))) (l10 : K.lookup f10 = some ⟨oc10, od10, .func (PySem.W.fnOf "_law_box" "_law_box" (defArgs s_law_box) (defBody s_law_box) (defScope s_law_box) .none kV10 dc10 pm10 an10 cd10 ct10), sl10⟩) (c10 : PySem.W.codeIn K cd10 "_law_box" = true) (k10 : PySem.W.keepIn K (.ref f10) = true)
    {od11 an11 : Option Addr} {sl11 : Array (Option Value)} {oc11 kV11 dc11 pm11 cd11 ct11 : Value}
    (a11 : PySem.W.nsIn K mainGlobals "_law_take" = some (some (.ref f11))) (l11 : K.lookup f11 = some ⟨oc11, od11, .func (PySem.W.fnOf "_law_take" "_law_take" (defArgs s_law_take) (defBody s_law_take) (defScope s_law_take) .none kV11 dc11 pm11 an11 cd11 ct11), sl11⟩) (c11 : PySem.W.codeIn K cd11 "_law_take" = true) (k11 : PySem.W.keepIn K (.ref f11) = true)
    {od12 an12 : Option Addr} {sl12 : Array (Option Value)} {oc12 kV12 dc12 pm12 cd12 ct12 : Value}
    (a12 : PySem.W.nsIn K mainGlobals "_law_mixed" = some (some (.ref f12))) (l12 : K.lookup f12 = some ⟨oc12, od12, .func (PySem.W.fnOf "_law_mixed" "_law_mixed" (defArgs s_law_mixed) (defBody s_law_mixed) (defScope s_law_mixed) .none kV12 dc12 pm12 an12 cd12 ct12), sl12⟩) (c12 : PySem.W.codeIn K cd12 "_law_mixed" = true) (k12 : PySem.W.keepIn K (.ref f12) = true)
    {od13 an13 : Option Addr} {sl13 : Array (Option Value)} {oc13 kV13 dc13 pm13 cd13 ct13 : Value}
    (a13 : PySem.W.nsIn K mainGlobals "_law_names" = some (some (.ref f13))) (l13 : K.lookup f13 = some ⟨oc13, od13, .func (PySem.W.fnOf "_law_names" "_law_names" (defArgs s_law_names) (defBody s_law_names) (defScope s_law_names) .none kV13 dc13 pm13 an13 cd13 ct13), sl13⟩) (c13 : PySem.W.codeIn K cd13 "_law_names" = true) (k13 : PySem.W.keepIn K (.ref f13) = true)
    {od14 an14 : Option Addr} {sl14 : Array (Option Value)} {oc14 kV14 dc14 pm14 cd14 ct14 : Value}
    (a14 : PySem.W.nsIn K mainGlobals "_law_is_name" = some (some (.ref f14))) (l14 : K.lookup f14 = some ⟨oc14, od14, .func (PySem.W.fnOf "_law_is_name" "_law_is_name" (defArgs s_law_is_name) (defBody s_law_is_name) (defScope s_law_is_name) .none kV14 dc14 pm14 an14 cd14 ct14), sl14⟩) (c14 : PySem.W.codeIn K cd14 "_law_is_name" = true) (k14 : PySem.W.keepIn K (.ref f14) = true)
    {od15 an15 : Option Addr} {sl15 : Array (Option Value)} {oc15 kV15 dc15 pm15 cd15 ct15 : Value}
    (a15 : PySem.W.nsIn K mainGlobals "_law_is_limit" = some (some (.ref f15))) (l15 : K.lookup f15 = some ⟨oc15, od15, .func (PySem.W.fnOf "_law_is_limit" "_law_is_limit" (defArgs s_law_is_limit) (defBody s_law_is_limit) (defScope s_law_is_limit) .none kV15 dc15 pm15 an15 cd15 ct15), sl15⟩) (c15 : PySem.W.codeIn K cd15 "_law_is_limit" = true) (k15 : PySem.W.keepIn K (.ref f15) = true)
    {od16 an16 : Option Addr} {sl16 : Array (Option Value)} {oc16 kV16 dc16 pm16 cd16 ct16 : Value}
    (a16 : PySem.W.nsIn K mainGlobals "_law_is_span" = some (some (.ref f16))) (l16 : K.lookup f16 = some ⟨oc16, od16, .func (PySem.W.fnOf "_law_is_span" "_law_is_span" (defArgs s_law_is_span) (defBody s_law_is_span) (defScope s_law_is_span) .none kV16 dc16 pm16 an16 cd16 ct16), sl16⟩) (c16 : PySem.W.codeIn K cd16 "_law_is_span" = true) (k16 : PySem.W.keepIn K (.ref f16) = true)
    {od17 an17 : Option Addr} {sl17 : Array (Option Value)} {oc17 kV17 dc17 pm17 cd17 ct17 : Value}
    (a17 : PySem.W.nsIn K mainGlobals "_law_is_change" = some (some (.ref f17))) (l17 : K.lookup f17 = some ⟨oc17, od17, .func (PySem.W.fnOf "_law_is_change" "_law_is_change" (defArgs s_law_is_change) (defBody s_law_is_change) (defScope s_law_is_change) .none kV17 dc17 pm17 an17 cd17 ct17), sl17⟩) (c17 : PySem.W.codeIn K cd17 "_law_is_change" = true) (k17 : PySem.W.keepIn K (.ref f17) = true)
    {od18 an18 : Option Addr} {sl18 : Array (Option Value)} {oc18 kV18 dc18 pm18 cd18 ct18 : Value}
    (a18 : PySem.W.nsIn K mainGlobals "_law_right" = some (some (.ref f18))) (l18 : K.lookup f18 = some ⟨oc18, od18, .func (PySem.W.fnOf "_law_right" "_law_right" (defArgs s_law_right) (defBody s_law_right) (defScope s_law_right) .none kV18 dc18 pm18 an18 cd18 ct18), sl18⟩) (c18 : PySem.W.codeIn K cd18 "_law_right" = true) (k18 : PySem.W.keepIn K (.ref f18) = true)
    {od19 an19 : Option Addr} {sl19 : Array (Option Value)} {oc19 kV19 dc19 pm19 cd19 ct19 : Value}
    (a19 : PySem.W.nsIn K mainGlobals "_law_bent" = some (some (.ref f19))) (l19 : K.lookup f19 = some ⟨oc19, od19, .func (PySem.W.fnOf "_law_bent" "_law_bent" (defArgs s_law_bent) (defBody s_law_bent) (defScope s_law_bent) .none kV19 dc19 pm19 an19 cd19 ct19), sl19⟩) (c19 : PySem.W.codeIn K cd19 "_law_bent" = true) (k19 : PySem.W.keepIn K (.ref f19) = true)
    {od20 an20 : Option Addr} {sl20 : Array (Option Value)} {oc20 kV20 dc20 pm20 cd20 ct20 : Value}
    (a20 : PySem.W.nsIn K mainGlobals "_law_told" = some (some (.ref f20))) (l20 : K.lookup f20 = some ⟨oc20, od20, .func (PySem.W.fnOf "_law_told" "_law_told" (defArgs s_law_told) (defBody s_law_told) (defScope s_law_told) .none kV20 dc20 pm20 an20 cd20 ct20), sl20⟩) (c20 : PySem.W.codeIn K cd20 "_law_told" = true) (k20 : PySem.W.keepIn K (.ref f20) = true)
    {od21 an21 : Option Addr} {sl21 : Array (Option Value)} {oc21 kV21 dc21 pm21 cd21 ct21 : Value}
    (a21 : PySem.W.nsIn K mainGlobals "_law_roles" = some (some (.ref f21))) (l21 : K.lookup f21 = some ⟨oc21, od21, .func (PySem.W.fnOf "_law_roles" "_law_roles" (defArgs s_law_roles) (defBody s_law_roles) (defScope s_law_roles) .none kV21 dc21 pm21 an21 cd21 ct21), sl21⟩) (c21 : PySem.W.codeIn K cd21 "_law_roles" = true) (k21 : PySem.W.keepIn K (.ref f21) = true)
    {od22 an22 : Option Addr} {sl22 : Array (Option Value)} {oc22 kV22 dc22 pm22 cd22 ct22 : Value}
    (a22 : PySem.W.nsIn K mainGlobals "law" = some (some (.ref f22))) (l22 : K.lookup f22 = some ⟨oc22, od22, .func (PySem.W.fnOf "law" "law" (defArgs s_law) (defBody s_law) (defScope s_law) .none kV22 dc22 pm22 an22 cd22 ct22), sl22⟩) (c22 : PySem.W.codeIn K cd22 "law" = true) (k22 : PySem.W.keepIn K (.ref f22) = true)
    (g_PartsError : PySem.W.nsIn K mainGlobals "PartsError" = some (some (.ref C_PartsError)))
    (g_InvalidChange : PySem.W.nsIn K mainGlobals "InvalidChange" = some (some (.ref C_InvalidChange)))
    {nm_InvalidChange qn_InvalidChange : Str} {N_InvalidChange : Addr} {bs_InvalidChange bm_InvalidChange : List Value} {sn_InvalidChange : List Str} {sub_InvalidChange : List Value} {ab_InvalidChange : Bool} {col_InvalidChange : Option Bool} {dd_InvalidChange : Option Addr} {m0_InvalidChange m1_InvalidChange m2_InvalidChange m3_InvalidChange m5_InvalidChange : Option Value}
    (xL_InvalidChange : K.lookup C_InvalidChange = some (excClassObj nm_InvalidChange qn_InvalidChange C_InvalidChange N_InvalidChange bs_InvalidChange bm_InvalidChange true sn_InvalidChange sub_InvalidChange ab_InvalidChange col_InvalidChange dd_InvalidChange m0_InvalidChange m1_InvalidChange m2_InvalidChange m3_InvalidChange m5_InvalidChange "ValueError.__new__")) (rB_InvalidChange : PySem.HandSPX.refsVE bm_InvalidChange = true)
    (sa_InvalidChange : PySem.W.findIn K (.ref C_InvalidChange) "__setattr__" = some (some (.builtin "object.__setattr__"))) (ga_InvalidChange : PySem.W.findIn K (.ref C_InvalidChange) "__getattribute__" = some (some (.builtin "BaseException.__getattribute__"))) (gg_InvalidChange : PySem.W.findIn K (.ref C_InvalidChange) "__getattr__" = some none) (nb_InvalidChange : PySem.W.findIn K (.ref C_InvalidChange) "value" = some none)
    (t1_InvalidChange : PySem.W.typeIn K (.ref f0) = some (.type "function")) (kC_InvalidChange : PySem.W.keepIn K (.ref C_InvalidChange) = true) (eC_InvalidChange : PySem.W.subIn K (.ref C_InvalidChange) (.type "BaseException") = some true) (tC_InvalidChange : PySem.W.typeIn K (.ref C_InvalidChange) = some (.type "type")) (hC_InvalidChange : PySem.W.hasDictIn K C_InvalidChange = true)
    (e_InvalidChange_InvalidChange : PySem.W.exmOne K (.ref C_InvalidChange) (.ref C_InvalidChange) = some true)
    {t_LONGEST_NAME : Tok} (v_LONGEST_NAME : PySem.W.nsIn K mainGlobals "LONGEST_NAME" = some (some (.int 8 t_LONGEST_NAME)))
    (z_isinstance : PySem.W.nsIn K mainGlobals "isinstance" = some none)
    (z_int : PySem.W.nsIn K mainGlobals "int" = some none)
    (z_bool : PySem.W.nsIn K mainGlobals "bool" = some none)
    (z_all : PySem.W.nsIn K mainGlobals "all" = some none)
    (z_str : PySem.W.nsIn K mainGlobals "str" = some none)
    (z_len : PySem.W.nsIn K mainGlobals "len" = some none)
    (z_tuple : PySem.W.nsIn K mainGlobals "tuple" = some none)
    (z_set : PySem.W.nsIn K mainGlobals "set" = some none)
    (z_max : PySem.W.nsIn K mainGlobals "max" = some none)
    (z_list : PySem.W.nsIn K mainGlobals "list" = some none)
    (z_range : PySem.W.nsIn K mainGlobals "range" = some none)
    (z_min : PySem.W.nsIn K mainGlobals "min" = some none)
    : ∃ fd : FuncData, (∀ (s : Shared) (v : Value), BindsTo s fd ⟨[v], []⟩ [("_law_script", v)]) ∧ ∀ base : Heap, K.In base → base.Ns mainGlobals mg → FnOk l.prog w K mg base CX0 8 fa fd ["_law_script"] (sp_law K) := by
  have e := hfa.symm.trans (PySem.W.mg_of X G a22)
  cases e
  let T : Txt K mg := {
    f_InvalidChange_init := f0, fd_InvalidChange_init := _, F_InvalidChange_init := fun_mk (st := s_InvalidChange_init) l0 c0 k0, b_InvalidChange_init := (fun_mk (st := s_InvalidChange_init) l0 c0 k0).binds (ps := ["self", "value"]) fun _ _ _ _ _ _ us hl => match us, hl with | [_, _], _ => rfl,
    f_is_integer := f1, fd_is_integer := _, F_is_integer := fun_mk (st := s_is_integer) l1 c1 k1, b_is_integer := (fun_mk (st := s_is_integer) l1 c1 k1).binds (ps := ["value"]) fun _ _ _ _ _ _ us hl => match us, hl with | [_], _ => rfl, m_is_integer := PySem.W.mg_of X G a1,
    f_is_name := f2, fd_is_name := _, F_is_name := fun_mk (st := s_is_name) l2 c2 k2, b_is_name := (fun_mk (st := s_is_name) l2 c2 k2).binds (ps := ["value"]) fun _ _ _ _ _ _ us hl => match us, hl with | [_], _ => rfl, m_is_name := PySem.W.mg_of X G a2,
    f_is_span := f3, fd_is_span := _, F_is_span := fun_mk (st := s_is_span) l3 c3 k3, b_is_span := (fun_mk (st := s_is_span) l3 c3 k3).binds (ps := ["value"]) fun _ _ _ _ _ _ us hl => match us, hl with | [_], _ => rfl, m_is_span := PySem.W.mg_of X G a3,
    f_is_limit := f4, fd_is_limit := _, F_is_limit := fun_mk (st := s_is_limit) l4 c4 k4, b_is_limit := (fun_mk (st := s_is_limit) l4 c4 k4).binds (ps := ["value"]) fun _ _ _ _ _ _ us hl => match us, hl with | [_], _ => rfl, m_is_limit := PySem.W.mg_of X G a4,
    f_is_change := f5, fd_is_change := _, F_is_change := fun_mk (st := s_is_change) l5 c5 k5, b_is_change := (fun_mk (st := s_is_change) l5 c5 k5).binds (ps := ["value"]) fun _ _ _ _ _ _ us hl => match us, hl with | [_], _ => rfl, m_is_change := PySem.W.mg_of X G a5,
    f_are_different_names := f6, fd_are_different_names := _, F_are_different_names := fun_mk (st := s_are_different_names) l6 c6 k6, b_are_different_names := (fun_mk (st := s_are_different_names) l6 c6 k6).binds (ps := ["values"]) fun _ _ _ _ _ _ us hl => match us, hl with | [_], _ => rfl, m_are_different_names := PySem.W.mg_of X G a6,
    f_require_change := f7, fd_require_change := _, F_require_change := fun_mk (st := s_require_change) l7 c7 k7, b_require_change := (fun_mk (st := s_require_change) l7 c7 k7).binds (ps := ["value"]) fun _ _ _ _ _ _ us hl => match us, hl with | [_], _ => rfl, m_require_change := PySem.W.mg_of X G a7,
    f_roles := f8, fd_roles := _, F_roles := fun_mk (st := s_roles) l8 c8 k8, b_roles := (fun_mk (st := s_roles) l8 c8 k8).binds (ps := ["change"]) fun _ _ _ _ _ _ us hl => match us, hl with | [_], _ => rfl, m_roles := PySem.W.mg_of X G a8,
    f_law_cell := f9, fd_law_cell := _, F_law_cell := fun_mk (st := s_law_cell) l9 c9 k9, b_law_cell := (fun_mk (st := s_law_cell) l9 c9 k9).binds (ps := ["_law_script", "_law_k"]) fun _ _ _ _ _ _ us hl => match us, hl with | [_, _], _ => rfl, m_law_cell := PySem.W.mg_of X G a9,
    f_law_box := f10, fd_law_box := _, F_law_box := fun_mk (st := s_law_box) l10 c10 k10, b_law_box := (fun_mk (st := s_law_box) l10 c10 k10).binds (ps := ["_law_cell_here"]) fun _ _ _ _ _ _ us hl => match us, hl with | [_], _ => rfl, m_law_box := PySem.W.mg_of X G a10,
    f_law_take := f11, fd_law_take := _, F_law_take := fun_mk (st := s_law_take) l11 c11 k11, b_law_take := (fun_mk (st := s_law_take) l11 c11 k11).binds (ps := ["_law_box_here", "_law_many"]) fun _ _ _ _ _ _ us hl => match us, hl with | [_, _], _ => rfl, m_law_take := PySem.W.mg_of X G a11,
    f_law_mixed := f12, fd_law_mixed := _, F_law_mixed := fun_mk (st := s_law_mixed) l12 c12 k12, b_law_mixed := (fun_mk (st := s_law_mixed) l12 c12 k12).binds (ps := ["_law_box_here", "_law_some"]) fun _ _ _ _ _ _ us hl => match us, hl with | [_, _], _ => rfl, m_law_mixed := PySem.W.mg_of X G a12,
    f_law_names := f13, fd_law_names := _, F_law_names := fun_mk (st := s_law_names) l13 c13 k13, b_law_names := (fun_mk (st := s_law_names) l13 c13 k13).binds (ps := ["_law_box_here", "_law_many"]) fun _ _ _ _ _ _ us hl => match us, hl with | [_, _], _ => rfl, m_law_names := PySem.W.mg_of X G a13,
    f_law_is_name := f14, fd_law_is_name := _, F_law_is_name := fun_mk (st := s_law_is_name) l14 c14 k14, b_law_is_name := (fun_mk (st := s_law_is_name) l14 c14 k14).binds (ps := ["_law_value"]) fun _ _ _ _ _ _ us hl => match us, hl with | [_], _ => rfl, m_law_is_name := PySem.W.mg_of X G a14,
    f_law_is_limit := f15, fd_law_is_limit := _, F_law_is_limit := fun_mk (st := s_law_is_limit) l15 c15 k15, b_law_is_limit := (fun_mk (st := s_law_is_limit) l15 c15 k15).binds (ps := ["_law_value"]) fun _ _ _ _ _ _ us hl => match us, hl with | [_], _ => rfl, m_law_is_limit := PySem.W.mg_of X G a15,
    f_law_is_span := f16, fd_law_is_span := _, F_law_is_span := fun_mk (st := s_law_is_span) l16 c16 k16, b_law_is_span := (fun_mk (st := s_law_is_span) l16 c16 k16).binds (ps := ["_law_value"]) fun _ _ _ _ _ _ us hl => match us, hl with | [_], _ => rfl, m_law_is_span := PySem.W.mg_of X G a16,
    f_law_is_change := f17, fd_law_is_change := _, F_law_is_change := fun_mk (st := s_law_is_change) l17 c17 k17, b_law_is_change := (fun_mk (st := s_law_is_change) l17 c17 k17).binds (ps := ["_law_value"]) fun _ _ _ _ _ _ us hl => match us, hl with | [_], _ => rfl, m_law_is_change := PySem.W.mg_of X G a17,
    f_law_right := f18, fd_law_right := _, F_law_right := fun_mk (st := s_law_right) l18 c18 k18, b_law_right := (fun_mk (st := s_law_right) l18 c18 k18).binds (ps := ["_law_box_here", "_law_names_here"]) fun _ _ _ _ _ _ us hl => match us, hl with | [_, _], _ => rfl, m_law_right := PySem.W.mg_of X G a18,
    f_law_bent := f19, fd_law_bent := _, F_law_bent := fun_mk (st := s_law_bent) l19 c19 k19, b_law_bent := (fun_mk (st := s_law_bent) l19 c19 k19).binds (ps := ["_law_box_here", "_law_change"]) fun _ _ _ _ _ _ us hl => match us, hl with | [_, _], _ => rfl, m_law_bent := PySem.W.mg_of X G a19,
    f_law_told := f20, fd_law_told := _, F_law_told := fun_mk (st := s_law_told) l20 c20 k20, b_law_told := (fun_mk (st := s_law_told) l20 c20 k20).binds (ps := ["_law_value"]) fun _ _ _ _ _ _ us hl => match us, hl with | [_], _ => rfl, m_law_told := PySem.W.mg_of X G a20,
    f_law_roles := f21, fd_law_roles := _, F_law_roles := fun_mk (st := s_law_roles) l21 c21 k21, b_law_roles := (fun_mk (st := s_law_roles) l21 c21 k21).binds (ps := ["_law_change"]) fun _ _ _ _ _ _ us hl => match us, hl with | [_], _ => rfl, m_law_roles := PySem.W.mg_of X G a21,
    f_law := fa, fd_law := _, F_law := fun_mk (st := s_law) l22 c22 k22, b_law := (fun_mk (st := s_law) l22 c22 k22).binds (ps := ["_law_script"]) fun _ _ _ _ _ _ us hl => match us, hl with | [_], _ => rfl, m_law := PySem.W.mg_of X G a22,
    C_PartsError := C_PartsError, g_PartsError := PySem.W.mg_of X G g_PartsError,
    C_InvalidChange := C_InvalidChange, g_InvalidChange := PySem.W.mg_of X G g_InvalidChange,
    x_InvalidChange := ⟨⟨_, _, _, _, _, _, _, _, _, _, _, _, _, _, _, xL_InvalidChange, rB_InvalidChange⟩, sa_InvalidChange, eC_InvalidChange, tC_InvalidChange, kC_InvalidChange⟩, y_InvalidChange := ⟨ga_InvalidChange, gg_InvalidChange, eC_InvalidChange, hC_InvalidChange⟩, n_InvalidChange := nb_InvalidChange, i_InvalidChange := a0, t_InvalidChange := t1_InvalidChange,
    e_InvalidChange_InvalidChange := e_InvalidChange_InvalidChange,
    t_LONGEST_NAME := t_LONGEST_NAME, c_LONGEST_NAME := PySem.W.mg_of X G v_LONGEST_NAME,
    z_isinstance := PySem.W.mg_none_of X G z_isinstance,
    z_int := PySem.W.mg_none_of X G z_int,
    z_bool := PySem.W.mg_none_of X G z_bool,
    z_all := PySem.W.mg_none_of X G z_all,
    z_str := PySem.W.mg_none_of X G z_str,
    z_len := PySem.W.mg_none_of X G z_len,
    z_tuple := PySem.W.mg_none_of X G z_tuple,
    z_set := PySem.W.mg_none_of X G z_set,
    z_max := PySem.W.mg_none_of X G z_max,
    z_list := PySem.W.mg_none_of X G z_list,
    z_range := PySem.W.mg_none_of X G z_range,
    z_min := PySem.W.mg_none_of X G z_min }
  exact ⟨T.fd_law, fun s v => .of_eq rfl, fun base _ _ => ok_law T⟩
theorem walk {l : PySem.W.OpenLaw} {q : Program} {loose : List Str} {XP : (Str → Option Value) → Heap → Prop} {YP : World → Heap → Prop} {d : DefRec} {K : Params → PySem.W.Frag} (hn : l.most = some 63) (hdf : d.params.defaults = [])
    (hY : ∀ (w : World) (h : Heap), YP w h → (K w.params).In h)
    (F : ∀ (w : World) (mg : Str → Option Value) (fa : Addr) (h : Heap), (K w.params).In h → h.Ns mainGlobals mg → mg d.name = some (.ref fa) →
      ∃ fd : FuncData, (∀ (s : Shared) (u : Value), BindsTo s fd ⟨[u], []⟩ [("_law_script", u)]) ∧ ∀ base : Heap, (K w.params).In base → base.Ns mainGlobals mg → FnOk l.prog w (K w.params) mg base CX0 8 fa fd ["_law_script"] (sp_law (K w.params))) :
    PySem.W.WalkO q loose XP YP l.row.toRowW d [] (fun f vs => PySem.call f vs) :=
  L2.walk_of (n := 63) (k := 8) (x := "_law_script") (CX := fun _ => CX0) (sp := fun w => sp_law (K w.params)) hn (by decide) hdf ⟨rfl, by decide, by decide⟩ hY F (fun _ _ a ns hl _ hS => ⟨a, ns, rfl, hS, hl, fun _ => rfl⟩) fun _ _ _ _ _ z => z
end My
open PySem PySem.W PyProof.Rows
set_option maxRecDepth 100000 in
set_option maxHeartbeats 0 in
theorem PySem.Challenge.cw_hungparts_k11_changes_and_roles_holds : PySem.Challenge.rw_hungparts_k11_changes_and_roles.Holds := by
  w_on; o_law; k_head; (case hw => w_witness2)
  k_fill
  refine My.walk (l := PySem.Challenge.rw_hungparts_k11_changes_and_roles) rfl rfl (fun w h Y => PySem.W.kIn_of Y) ?F
  case F =>
    intro w mg fa h KX G hmg
    refine' My.all_mk KX G hmg ?a0 ?l0 ?c0 ?k0 ?a1 ?l1 ?c1 ?k1 ?a2 ?l2 ?c2 ?k2 ?a3 ?l3 ?c3 ?k3 ?a4 ?l4 ?c4 ?k4 ?a5 ?l5 ?c5 ?k5 ?a6 ?l6 ?c6 ?k6 ?a7 ?l7 ?c7 ?k7 ?a8 ?l8 ?c8 ?k8 ?a9 ?l9 ?c9 ?k9 ?a10 ?l10 ?c10 ?k10 ?a11 ?l11 ?c11 ?k11 ?a12 ?l12 ?c12 ?k12 ?a13 ?l13 ?c13 ?k13 ?a14 ?l14 ?c14 ?k14 ?a15 ?l15 ?c15 ?k15 ?a16 ?l16 ?c16 ?k16 ?a17 ?l17 ?c17 ?k17 ?a18 ?l18 ?c18 ?k18 ?a19 ?l19 ?c19 ?k19 ?a20 ?l20 ?c20 ?k20 ?a21 ?l21 ?c21 ?k21 ?a22 ?l22 ?c22 ?k22 ?g_PartsError ?g_InvalidChange ?xL_InvalidChange ?rB_InvalidChange ?sa_InvalidChange ?ga_InvalidChange ?gg_InvalidChange ?nb_InvalidChange ?t1_InvalidChange ?kC_InvalidChange ?eC_InvalidChange ?tC_InvalidChange ?hC_InvalidChange ?e_InvalidChange_InvalidChange ?v_LONGEST_NAME ?z_isinstance ?z_int ?z_bool ?z_all ?z_str ?z_len ?z_tuple ?z_set ?z_max ?z_list ?z_range ?z_min
    (case g_PartsError => k_is)
    (case g_InvalidChange => k_is)
    (case a0 => k_is)
    (case l0 => k_is)
    (case c0 => k_is)
    (case k0 => k_is)
    (case a1 => k_is)
    (case l1 => k_is)
    (case c1 => k_is)
    (case k1 => k_is)
    (case a2 => k_is)
    (case l2 => k_is)
    (case c2 => k_is)
    (case k2 => k_is)
    (case a3 => k_is)
    (case l3 => k_is)
    (case c3 => k_is)
    (case k3 => k_is)
    (case a4 => k_is)
    (case l4 => k_is)
    (case c4 => k_is)
    (case k4 => k_is)
    (case a5 => k_is)
    (case l5 => k_is)
    (case c5 => k_is)
    (case k5 => k_is)
    (case a6 => k_is)
    (case l6 => k_is)
    (case c6 => k_is)
    (case k6 => k_is)
    (case a7 => k_is)
    (case l7 => k_is)
    (case c7 => k_is)
    (case k7 => k_is)
    (case a8 => k_is)
    (case l8 => k_is)
    (case c8 => k_is)
    (case k8 => k_is)
    (case a9 => k_is)
    (case l9 => k_is)
    (case c9 => k_is)
    (case k9 => k_is)
    (case a10 => k_is)
    (case l10 => k_is)
    (case c10 => k_is)
    (case k10 => k_is)
    (case a11 => k_is)
    (case l11 => k_is)
    (case c11 => k_is)
    (case k11 => k_is)
    (case a12 => k_is)
    (case l12 => k_is)
    (case c12 => k_is)
    (case k12 => k_is)
    (case a13 => k_is)
    (case l13 => k_is)
    (case c13 => k_is)
    (case k13 => k_is)
    (case a14 => k_is)
    (case l14 => k_is)
    (case c14 => k_is)
    (case k14 => k_is)
    (case a15 => k_is)
    (case l15 => k_is)
    (case c15 => k_is)
    (case k15 => k_is)
    (case a16 => k_is)
    (case l16 => k_is)
    (case c16 => k_is)
    (case k16 => k_is)
    (case a17 => k_is)
    (case l17 => k_is)
    (case c17 => k_is)
    (case k17 => k_is)
    (case a18 => k_is)
    (case l18 => k_is)
    (case c18 => k_is)
    (case k18 => k_is)
    (case a19 => k_is)
    (case l19 => k_is)
    (case c19 => k_is)
    (case k19 => k_is)
    (case a20 => k_is)
    (case l20 => k_is)
    (case c20 => k_is)
    (case k20 => k_is)
    (case a21 => k_is)
    (case l21 => k_is)
    (case c21 => k_is)
    (case k21 => k_is)
    (case a22 => k_is)
    (case l22 => k_is)
    (case c22 => k_is)
    (case k22 => k_is)
    (case xL_InvalidChange => k_is)
    (case rB_InvalidChange => decide +kernel)
    (case sa_InvalidChange => k_is)
    (case ga_InvalidChange => k_is)
    (case gg_InvalidChange => k_is)
    (case nb_InvalidChange => k_is)
    (case t1_InvalidChange => k_is)
    (case kC_InvalidChange => k_is)
    (case eC_InvalidChange => k_is)
    (case tC_InvalidChange => k_is)
    (case hC_InvalidChange => k_is)
    (case e_InvalidChange_InvalidChange => first | rfl | k_is)
    (case v_LONGEST_NAME => k_is)
    (case z_isinstance => k_is)
    (case z_int => k_is)
    (case z_bool => k_is)
    (case z_all => k_is)
    (case z_str => k_is)
    (case z_len => k_is)
    (case z_tuple => k_is)
    (case z_set => k_is)
    (case z_max => k_is)
    (case z_list => k_is)
    (case z_range => k_is)
    (case z_min => k_is)
#print axioms PySem.Challenge.cw_hungparts_k11_changes_and_roles_holds

