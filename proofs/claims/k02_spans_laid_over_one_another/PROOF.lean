import PyProof.Rows.All
import Wide.All
import OpenK.AllK
import Wide.FinOn
import HandS.ForMost
import HandS.ForExc
import HandS.IsInst
import HandS.Walk
import HandS.Codes
import HandS.SortKw
import HandS.TryMany
import HandS.ExcInit
import HandS.ExcField
import KE.DatumOrd
import HandS.More
import HandS.CallSlots
import HandS.Defaults
import HandS.TupAny
import PySem.Challenge.RW_hungparts_k02_spans_laid_over_one_anothe
set_option Elab.async false
set_option linter.all false
set_option maxRecDepth 100000
set_option maxHeartbeats 4000000

namespace My
open PySem L2
def top (i : Nat) : Stmt := PySem.Challenge.pw_hungparts_k02_spans_laid_over_one_anothe.main.body.getD i (.Pass ⟨0, 0, 0, 0⟩)
abbrev s_InvalidKey_init : Stmt := inClass (top 2) 0
theorem sc_InvalidKey_init : FnScope ["self", "value"] ["self", "value"] (defScope s_InvalidKey_init) := ⟨rfl, rfl, rfl, by decide +kernel, rfl, by decide +kernel, by decide +kernel⟩
abbrev s_InvalidSpan_init : Stmt := inClass (top 3) 0
theorem sc_InvalidSpan_init : FnScope ["self", "value"] ["self", "value"] (defScope s_InvalidSpan_init) := ⟨rfl, rfl, rfl, by decide +kernel, rfl, by decide +kernel, by decide +kernel⟩
abbrev s_is_integer : Stmt := top 5
theorem sc_is_integer : FnScope ["value"] ["value"] (defScope s_is_integer) := ⟨rfl, rfl, rfl, by decide +kernel, rfl, by decide +kernel, by decide +kernel⟩
abbrev s_is_span : Stmt := top 6
theorem sc_is_span : FnScope ["value", "low", "high"] ["value"] (defScope s_is_span) := ⟨rfl, rfl, rfl, by decide +kernel, rfl, by decide +kernel, by decide +kernel⟩
abbrev s_is_limit : Stmt := top 7
theorem sc_is_limit : FnScope ["value"] ["value"] (defScope s_is_limit) := ⟨rfl, rfl, rfl, by decide +kernel, rfl, by decide +kernel, by decide +kernel⟩
abbrev s_require_span : Stmt := top 8
theorem sc_require_span : FnScope ["value"] ["value"] (defScope s_require_span) := ⟨rfl, rfl, rfl, by decide +kernel, rfl, by decide +kernel, by decide +kernel⟩
abbrev s_require_key : Stmt := top 9
theorem sc_require_key : FnScope ["value"] ["value"] (defScope s_require_key) := ⟨rfl, rfl, rfl, by decide +kernel, rfl, by decide +kernel, by decide +kernel⟩
abbrev s_in_span : Stmt := top 10
theorem sc_in_span : FnScope ["span", "key", "low", "high"] ["span", "key"] (defScope s_in_span) := ⟨rfl, rfl, rfl, by decide +kernel, rfl, by decide +kernel, by decide +kernel⟩
abbrev s_meet : Stmt := top 11
theorem sc_meet : FnScope ["one", "other"] ["one", "other"] (defScope s_meet) := ⟨rfl, rfl, rfl, by decide +kernel, rfl, by decide +kernel, by decide +kernel⟩
abbrev s_common : Stmt := top 12
theorem sc_common : FnScope ["one", "other", "lows", "highs", "both", "low", "high"] ["one", "other"] (defScope s_common) := ⟨rfl, rfl, rfl, by decide +kernel, rfl, by decide +kernel, by decide +kernel⟩
abbrev s_law_cell : Stmt := top 14
theorem sc_law_cell : FnScope ["_law_script", "_law_k"] ["_law_script", "_law_k"] (defScope s_law_cell) := ⟨rfl, rfl, rfl, by decide +kernel, rfl, by decide +kernel, by decide +kernel⟩
abbrev s_law_box : Stmt := top 15
theorem sc_law_box : FnScope ["_law_cell_here"] ["_law_cell_here"] (defScope s_law_box) := ⟨rfl, rfl, rfl, by decide +kernel, rfl, by decide +kernel, by decide +kernel⟩
abbrev s_law_take : Stmt := top 16
theorem sc_law_take : FnScope ["_law_box_here", "_law_many", "_law_digit", "_law_number"] ["_law_box_here", "_law_many"] (defScope s_law_take) := ⟨rfl, rfl, rfl, by decide +kernel, rfl, by decide +kernel, by decide +kernel⟩
abbrev s_law_has : Stmt := top 17
theorem sc_law_has : FnScope ["_law_piece", "_law_place"] ["_law_piece", "_law_place"] (defScope s_law_has) := ⟨rfl, rfl, rfl, by decide +kernel, rfl, by decide +kernel, by decide +kernel⟩
abbrev s_law_span : Stmt := top 18
theorem sc_law_span : FnScope ["_law_box_here", "_law_great", "_law_low", "_law_high"] ["_law_box_here"] (defScope s_law_span) := ⟨rfl, rfl, rfl, by decide +kernel, rfl, by decide +kernel, by decide +kernel⟩
abbrev s_law_keys : Stmt := top 19
theorem sc_law_keys : FnScope ["_law_spans", "_law_found", "_law_piece", "_law_limit"] ["_law_spans"] (defScope s_law_keys) := ⟨rfl, rfl, rfl, by decide +kernel, rfl, by decide +kernel, by decide +kernel⟩
abbrev s_law_told : Stmt := top 20
theorem sc_law_told : FnScope ["_law_way", "_law_first", "_law_second", "e"] ["_law_way", "_law_first", "_law_second"] (defScope s_law_told) := ⟨rfl, rfl, rfl, by decide +kernel, rfl, by decide +kernel, by decide +kernel⟩
abbrev s_law_right : Stmt := top 21
theorem sc_law_right : FnScope ["_law_first", "_law_second", "_law_keys_here", "_law_both", "_law_place", "_law_told_here", "_law_inner", "_law_item"] ["_law_first", "_law_second"] (defScope s_law_right) := ⟨rfl, rfl, rfl, by decide +kernel, rfl, by decide +kernel, by decide +kernel⟩
abbrev s_law_same : Stmt := top 22
theorem sc_law_same : FnScope ["_law_told_here", "_law_first", "_law_second", "_law_place", "_law_limits", "_law_limit"] ["_law_told_here", "_law_first", "_law_second"] (defScope s_law_same) := ⟨rfl, rfl, rfl, by decide +kernel, rfl, by decide +kernel, by decide +kernel⟩
abbrev s_law : Stmt := top 23
theorem sc_law : FnScope ["_law_script", "_law_k", "_law_box_here", "_law_first", "_law_second", "_law_bad", "_law_worse", "_law_way", "_law_strange"] ["_law_script"] (defScope s_law) := ⟨rfl, rfl, rfl, by decide +kernel, rfl, by decide +kernel, by decide +kernel⟩

/-! ### further rules -/
section
variable {X : Cx}
theorem holdAll_ints {h : Heap} : ∀ {us : List Value} {ns : List Int}, Vals (ns.map V.int) us → PySem.W.HoldAll (α := Int) h us ns
  | _, [], .nil => ⟨_, .nil⟩
  | _, n :: r, .cons ⟨t, e⟩ k => by
    subst e
    obtain ⟨as, q⟩ := holdAll_ints (h := h) k
    exact ⟨_, .cons (.int n t) q⟩
theorem holds_int {h : Heap} {v : Value} {n : Int} (H : PySem.W.Holds (α := Int) h v n) : ∃ t, v = .int n t := by
  obtain ⟨as, r⟩ := H
  cases r
  exact ⟨_, rfl⟩
theorem maxOf_ints : ∀ (ys : List Int) (y : Int), PySem.W.maxOf y ys ∈ y :: ys ∧ ∀ n ∈ y :: ys, n ≤ PySem.W.maxOf y ys := by
  intro ys
  induction ys with
  | nil =>
    intro y
    exact ⟨List.mem_cons_self, fun n hn => by cases List.mem_singleton.mp hn; exact Int.le_refl _⟩
  | cons z r ih =>
    intro y
    have e : PySem.W.maxOf y (z :: r) = PySem.W.maxOf (if y < z then z else y) r := by
      show List.foldl _ (if decide (y < z) = true then z else y) r = _
      simp only [decide_eq_true_eq]
      rfl
    rw [e]
    obtain ⟨h1, h2⟩ := ih (if y < z then z else y)
    have hy := h2 _ List.mem_cons_self
    have hyz : y ≤ (if y < z then z else y) ∧ z ≤ (if y < z then z else y) := by
      split <;> omega
    refine ⟨?_, fun n hn => ?_⟩
    · rcases List.mem_cons.mp h1 with q | q
      · rw [q]
        split <;> simp
      · exact List.mem_cons_of_mem _ (List.mem_cons_of_mem _ q)
    · rcases List.mem_cons.mp hn with rfl | hn
      · omega
      · rcases List.mem_cons.mp hn with rfl | hn
        · omega
        · exact h2 n (List.mem_cons_of_mem _ hn)
theorem minOf_ints : ∀ (ys : List Int) (y : Int), PySem.W.minOf y ys ∈ y :: ys ∧ ∀ n ∈ y :: ys, PySem.W.minOf y ys ≤ n := by
  intro ys
  induction ys with
  | nil =>
    intro y
    exact ⟨List.mem_cons_self, fun n hn => by cases List.mem_singleton.mp hn; exact Int.le_refl _⟩
  | cons z r ih =>
    intro y
    have e : PySem.W.minOf y (z :: r) = PySem.W.minOf (if z < y then z else y) r := by
      show List.foldl _ (if decide (z < y) = true then z else y) r = _
      simp only [decide_eq_true_eq]
      rfl
    rw [e]
    obtain ⟨h1, h2⟩ := ih (if z < y then z else y)
    have hy := h2 _ List.mem_cons_self
    have hyz : (if z < y then z else y) ≤ y ∧ (if z < y then z else y) ≤ z := by
      split <;> omega
    refine ⟨?_, fun n hn => ?_⟩
    · rcases List.mem_cons.mp h1 with q | q
      · rw [q]
        split <;> simp
      · exact List.mem_cons_of_mem _ (List.mem_cons_of_mem _ q)
    · rcases List.mem_cons.mp hn with rfl | hn
      · omega
      · rcases List.mem_cons.mp hn with rfl | hn
        · omega
        · exact h2 n (List.mem_cons_of_mem _ hn)
/-- max(xs, default=d), xs a list of whole numbers -/
def rMaxD (K : PySem.W.Frag) : List V → List V → Hp → VK → Prop := fun xs zs H Q => ∃ (a : Addr) (ns : List Int) (d : V), xs = [.ref a] ∧ zs = [d] ∧ SqL K H a (ns.map V.int) ∧ (ns = [] → Q d H) ∧ ∀ m, m ∈ ns → (∀ n ∈ ns, n ≤ m) → Q (.int m) H
def rMinD (K : PySem.W.Frag) : List V → List V → Hp → VK → Prop := fun xs zs H Q => ∃ (a : Addr) (ns : List Int) (d : V), xs = [.ref a] ∧ zs = [d] ∧ SqL K H a (ns.map V.int) ∧ (ns = [] → Q d H) ∧ ∀ m, m ∈ ns → (∀ n ∈ ns, m ≤ n) → Q (.int m) H
theorem cr_maxD (hc : X.calm = true) (hu : X.A.units + 64 < cLine) : CallRK X (.builtin "max") ["default"] (rMaxD X.K) := by
  intro pins s σ H xs zs us ws Q I rx rz h
  obtain ⟨a, ns, d, rfl, rfl, hS, h0, h1⟩ := h
  obtain ⟨its, rv, pl, _⟩ := I.list hS
  obtain ⟨u, rfl, ru⟩ := vals1 rx
  obtain ⟨dv, rfl, rd⟩ := vals1 rz
  cases ru
  refine PySem.W.max_list_datum_default (α := Int) (xs := ns) (I.ok.hd hc) pl.isList (holdAll_ints (by simpa using rv)) (by show X.A.units + 1 + 0 < cLine; omega) (fun e h' tk k => ⟨d, H, I.kept k, rd, h0 e⟩) fun y ys i v h' tk e hi hh k => ?_
  subst e
  obtain ⟨t, rfl⟩ := holds_int hh
  have m := maxOf_ints ys y
  exact ⟨.int _, H, I.kept k, ⟨t, rfl⟩, h1 _ m.1 m.2⟩
theorem cr_minD (hc : X.calm = true) (hu : X.A.units + 64 < cLine) : CallRK X (.builtin "min") ["default"] (rMinD X.K) := by
  intro pins s σ H xs zs us ws Q I rx rz h
  obtain ⟨a, ns, d, rfl, rfl, hS, h0, h1⟩ := h
  obtain ⟨its, rv, pl, _⟩ := I.list hS
  obtain ⟨u, rfl, ru⟩ := vals1 rx
  obtain ⟨dv, rfl, rd⟩ := vals1 rz
  cases ru
  refine PySem.W.min_list_datum_default (α := Int) (xs := ns) (I.ok.hd hc) pl.isList (holdAll_ints (by simpa using rv)) (by show X.A.units + 1 + 0 < cLine; omega) (fun e h' tk k => ⟨d, H, I.kept k, rd, h0 e⟩) fun y ys i v h' tk e hi hh k => ?_
  subst e
  obtain ⟨t, rfl⟩ := holds_int hh
  have m := minOf_ints ys y
  exact ⟨.int _, H, I.kept k, ⟨t, rfl⟩, h1 _ m.1 m.2⟩
/-- what is surely the same: a flat value, or one object -/
def sureV (v : V) : Bool := flatB v || (match v with | .ref _ => true | _ => false)
theorem sure_eq {A : Around} {s : Shared} {v : V} {u u' : Value} (r : RelV v u) (r' : RelV v u') (f : sureV v = true) : SeqAt.EqAt A s u u' true := by
  cases v with
  | ref a =>
    cases (show u = Value.ref a from r)
    cases (show u' = Value.ref a from r')
    exact SeqAt.EqAt.same _
  | ty n => cases f
  | flt b => cases f
  | _ => exact eqAt_same r r' rfl
/-- two lists of the same items: they are not unlike -/
def rNeS (K : PySem.W.Frag) : R2 := fun x y H Q => ∃ (a b : Addr) (xs : List V), x = .ref a ∧ y = .ref b ∧ SqL K H a xs ∧ SqL K H b xs ∧ xs.all sureV = true ∧ Q (.bl false) H
theorem op_neS (hu : X.A.units + 64 < cLine) : OpR X (compareOp .NotEq) (rNeS X.K) := by
  intro pins s σ H x y v u Q I rx ry h
  obtain ⟨a, b, xs, rfl, rfl, ha, hb, hf, q⟩ := h
  cases (show v = Value.ref a from rx)
  cases (show u = Value.ref b from ry)
  obtain ⟨us, r1, p1, _⟩ := I.list ha
  obtain ⟨ws, r2, p2, _⟩ := I.list hb
  have hl : us.toArray.size = ws.toArray.size := by
    rw [List.size_toArray, List.size_toArray, ← r1.length, ← r2.length]
  refine SeqAt.RcNeAt.lists (e := fun _ => true) p1.isList p2.isList hl (by omega) (fun j h1 h2 => ?_) X.prog X.w _ _ ?_
  · have hj : j < xs.length := by
      rw [r1.length]
      simpa using h1
    obtain ⟨u1, e1, q1⟩ := r1.get (List.getElem?_eq_getElem hj)
    obtain ⟨u2, e2, q2⟩ := r2.get (List.getElem?_eq_getElem hj)
    have k1 : us.toArray[j] = u1 := by
      have := List.getElem?_eq_some_iff.mp e1
      simpa using this.2
    have k2 : ws.toArray[j] = u2 := by
      have := List.getElem?_eq_some_iff.mp e2
      simpa using this.2
    rw [k1, k2]
    exact sure_eq q1 q2 (List.all_eq_true.mp hf _ (List.getElem_mem hj))
  · have ea : ((List.range us.toArray.size).all fun _ => true) = true := List.all_eq_true.mpr fun _ _ => rfl
    rw [ea]
    exact ⟨.bl false, H, I, rfl, q⟩
end
/-! ### try with several clauses, each of which names the exception: slot i is the name's -/
/-- what the clauses wish of an exception of the body, one after the other -/
def wManyAs (K : PySem.W.Frag) (i : Nat) (Wout : WX) (D : Ends) : List (Value × (Addr → Value → Option Addr → TS)) → WX
  | [] => Wout
  | (c, ts) :: r => wAs K c i ts (wManyAs K i Wout D r) D
inductive HdsAs (X : Cx) (n : Str) : List ExceptHandler → List (Value × (Addr → Value → Option Addr → TS)) → Prop
  | nil : HdsAs X n [] []
  | cons {x : Str} {c : Value} {ts : Addr → Value → Option Addr → TS} {st : Stmt} {sts : List Stmt} {p1 p2 : Pos} {hs : List ExceptHandler} {l : List (Value × (Addr → Value → Option Addr → TS))} (hc : Names X x c)
      (hb : ∀ (a : Addr) (o : Obj) (cls : Value) (d : Option Addr) (pn : List (Addr × Obj)), Zc cls d o → (∃ vs, o.data = .fields vs) → PSs (X.suite a ((a, o) :: pn)) (st :: sts) (ts a cls d)) (r : HdsAs X n hs l) :
      HdsAs X n (.ExceptHandler (some (.Name x p1)) (some n) (st :: sts) p2 :: hs) ((c, ts) :: l)
section
variable {X : Cx} {n : Str} {i : Nat} {pos : Pos} {tb : WX → TS} {Wout : WX} {body : List Stmt}
theorem ps_try_manyAs {g₀ : ExceptHandler} {gs : List ExceptHandler} {l : List (Value × (Addr → Value → Option Addr → TS))} (stk : X.stack = X.env :: X.outer) (frm : X.env.frame = some X.env.locals) (nodup : X.N.Nodup) (at_i : X.N[i]? = some n) (lcl : X.env.kindOf n = some .local)
    (out : Takes X Wout) (hbody : ∀ (W : WX) (pn : List (Addr × Obj)) (xe : Value → Shared → Prop), Takes (X.tr pn xe) W → PassesOwn (model X.prog X.w) X.A X.env xe → PSs (X.tr pn xe) body (tb W)) (hands : HdsAs X n (g₀ :: gs) l) :
    PS X (.Try body (g₀ :: gs) [] [] pos) (fun D σ H => tb (wManyAs X.K i Wout D l) D σ H) := by
  constructor
  intro pins s σ H D I hw
  have fr2 : X.A.frames = some (X.env :: X.outer) := by
    rw [I.ok.frames, stk]
  apply wpAny_Try_except
  let xe' : Value → Shared → Prop := fun e s₁ => wpAny (model X.prog X.w) X.A (noteFrame e X.env)
    (fun _ s₂ => wpAny (model X.prog X.w) X.A (setFlight e none) (fun _ s₃ => wpAny (model X.prog X.w) X.A (handleBy e X.env (g₀ :: gs)) (SP X pins D) X.xe s₃) X.xe s₂) X.xe s₁
  have caught : Takes (X.tr (X.pn ++ pins) xe') (wManyAs X.K i Wout D l) := by
    rintro u s' ⟨a, B, sI, pins', σ', H', cls, d, rfl, J1, nb, up, sky, na, os, ag, wish⟩
    have J := J1.ofTry I.ok
    have sky2 : Sky B (X.env :: X.outer) a (Zc cls d) X.env.locals s'.heap := by
      rw [← stk]
      exact sky
    show wpAny _ X.A (noteFrame (.ref a) X.env) _ _ _
    apply Sky.land Zc.steady fr2 frm sky2
    intro hA fly upA
    have JA : Inv X pins σ' H' { s' with heap := hA } := J.landed nb fly.1 (up.trans upA) os ag
    obtain ⟨oA, wA, getA, zA, dataA⟩ := fly.there
    have off : a ∉ frs (X.env :: X.outer) := by
      intro hm
      obtain ⟨_, o2, get2, nodata⟩ := fly.2.2.1.mem hm
      have same := get2.symm.trans getA
      cases same
      exact nodata _ dataA
    have offL : a ≠ X.env.locals := by
      intro z
      refine off (List.mem_filterMap.mpr ⟨X.env, List.mem_cons_self, ?_⟩)
      rw [frm, z]
    have offF : a ∉ X.fs := by
      intro hm
      obtain ⟨e, he, q⟩ := List.mem_filterMap.mp hm
      exact off (List.mem_filterMap.mpr ⟨e, List.mem_cons_of_mem _ he, q⟩)
    have SA := JA.suite getA dataA na offL offF
    suffices go : ∀ {hs : List ExceptHandler} {l' : List (Value × (Addr → Value → Option Addr → TS))}, HdsAs X n hs l' → wManyAs X.K i Wout D l' cls d σ' H' →
        wpAny (model X.prog X.w) X.A (handleBy (.ref a) X.env hs) (SP X pins D) X.xe { s' with heap := hA } from go hands wish
    intro hs l' hk
    induction hk with
    | nil =>
      intro wi
      apply wpAny_handleBy_nil
      obtain ⟨_, _, _, o5, w5, T5, oT5, t5, g5, z5, d5, e5, r5⟩ := id fly
      unfold PySem.passOn
      apply wpAny_bind
      refine wpAny_field g5 d5 e5 ?_
      rw [if_neg (show ¬ ((Value.ref T5 == Value.none) = true) by simp)]
      have leave : wpAny (model X.prog X.w) X.A (setFlight (.ref a) X.env.frame) (fun _ s4 => wpAny (model X.prog X.w) X.A (throw (.ref a) : Sem Flow) (SP X pins D) X.xe s4) X.xe { s' with heap := hA } := by
        rw [frm]
        refine HandSPX.setFlight_upZ fly fun hB heldB upB => ?_
        apply wpAny_throw
        exact out _ _ ⟨a, B, sI, pins, σ', H', cls, d, rfl, J, nb, (up.trans upA).trans upB, .inr (.inr (by rw [stk]; exact heldB)), na, os, ag, wi⟩
      first
        | exact wpAny_bind leave
        | exact wpAny_bind (wpAny_pure (wpAny_bind leave))
    | @cons x c ts st sts p1 p2 hs2 l2 hc hb r ih =>
      rintro ⟨b, isb, yes, no⟩
      refine wpAny_handleBy_cons (codeAny_handlers_test ?_) (by intro q; cases q)
      have lookT : PySem.W.Looks (model X.prog X.w) hA (typeOf (.ref a)) cls := by
        intro A' Q E s2 k q
        exact wpAny_typeOf_ref (k _ _ getA) (by rw [zA.1]; exact q)
      have lookM := PySem.W.exm_one (M := model X.prog X.w) JA.kIn lookT isb
      have named : ∀ {Q E : Value → Shared → Prop}, Q c { s' with heap := hA } → wpAny (model X.prog X.w) (X.A.mark (some (.ref a))) (eval (.Name x p1) X.env) Q E { s' with heap := hA } := by
        intro Q E q
        obtain ⟨gl, nd, hm⟩ := hc
        rcases hm with hm | ⟨hm, bv, nn⟩
        · exact ld_glob (X := X.suite a ((a, oA) :: (X.pn ++ pins))) SA gl hm q nd
        · exact ld_blt (X := X.suite a ((a, oA) :: (X.pn ++ pins))) SA gl hm bv q nn nd
      apply named
      apply lookM.here
      cases b with
      | false =>
        show wpAny _ X.A (handleBy (.ref a) X.env hs2) _ _ _
        exact ih (no rfl)
      | true =>
        apply codeAny_handlers_suite_as
        refine HandSPX.lands_againZ fly fun hC flyC upC => ?_
        have JC : Inv X pins σ' H' { s' with heap := hC } := J.landed nb flyC.1 ((up.trans upA).trans upC) os ag
        obtain ⟨oC, wC, getC, zC, dataC⟩ := flyC.there
        have SC := JC.suite getC dataC na offL offF
        refine store_ok (X := X.suite a ((a, oC) :: (X.pn ++ pins))) (v := .ref a) SC nodup at_i (.inl lcl) rfl (fun s5 S5 => ?_) (.inr lcl)
        refine wpAny_mono ((hb a oC cls d (X.pn ++ pins) zC ⟨_, dataC⟩).run [] s5 _ H' _ S5 (yes rfl a na)) (fun fl s6 hq => ?_) (fun _ _ z => z.elim)
        have fin : ∀ {σ6 : L2.St} {H6 : Hp} {Q : Shared → Prop}, Inv (X.suite a ((a, oC) :: (X.pn ++ pins))) [] σ6 H6 s6 → (∀ s7, Inv X pins (σ6.set i none) H6 s7 → Q s7) →
            wpAny (model X.prog X.w) X.A (do bindName X.env n .none; unbindBehindTheSuite X.env n p2) (fun _ s7 => Q s7) X.xe s6 := by
          intro σ6 H6 Q S6 q
          exact gone_ok (S6.unsuite I.ok) nodup at_i lcl q
        cases fl with
        | ret u =>
          obtain ⟨v6, σ6, H6, S6, r6, q6⟩ := hq
          exact fin S6 fun s7 J7 => ⟨_, _, _, J7, r6, q6⟩
        | next =>
          obtain ⟨σ6, H6, S6, q6⟩ := hq
          exact fin S6 fun s7 J7 => ⟨_, _, J7, q6⟩
        | brk =>
          obtain ⟨σ6, H6, S6, q6⟩ := hq
          exact fin S6 fun s7 J7 => ⟨_, _, J7, q6⟩
        | cont =>
          obtain ⟨σ6, H6, S6, q6⟩ := hq
          exact fin S6 fun s7 J7 => ⟨_, _, J7, q6⟩
  refine wpAny_mono ((hbody _ (X.pn ++ pins) xe' caught PassesOwn.looking).run [] s σ H D (I.toTry _) hw) (fun fl s1 hq => ?_) (fun _ _ he => he)
  cases fl with
  | ret u =>
    obtain ⟨v, σ', H', J', r', q⟩ := hq
    exact ⟨v, σ', H', J'.ofTry I.ok, r', q⟩
  | next =>
    obtain ⟨σ', H', J', q⟩ := hq
    exact wpAny_execs_nil ⟨σ', H', J'.ofTry I.ok, q⟩
  | brk =>
    obtain ⟨σ', H', J', q⟩ := hq
    exact ⟨σ', H', J'.ofTry I.ok, q⟩
  | cont =>
    obtain ⟨σ', H', J', q⟩ := hq
    exact ⟨σ', H', J'.ofTry I.ok, q⟩
end
/-! ### a def called with keywords (and perhaps positional values ahead), what leaves it wished for at the caller's slots -/
/-- what such a call binds, the parameters' order by a permutation of the values -/
structure KwB (K : PySem.W.Frag) (fd : FuncData) (ps : List Str) (n : Nat) (ks : List Str) (g : {α : Type} → List α → List α → List α) : Prop where
  to : ∀ (us ws : List Value), us.length = n → ws.length = ks.length → bindArgs fd ⟨us, ks.zip ws⟩ = pure (ps.zip (g us ws))
  rel : ∀ {vs : List V} {us : List Value} {zs : List V} {ws : List Value}, vs.length = n → zs.length = ks.length → Vals vs us → Vals zs ws → Vals (g vs zs) (g us ws)
def tCallKw (n m : Nat) (sp : Sp) (g : List V → List V → List V) (E : L2.St → XK) (t tk : TA) : TE := fun σ H Q => t σ H fun vs H1 => tk σ H1 fun zs H2 => vs.length = n ∧ zs.length = m ∧ sp (g vs zs) H2 Q (E σ)
section
variable {X : Cx} {CX : CXT} {k n : Nat} {f : Addr} {fd : FuncData} {ps ks : List Str} {sp : Sp} {E : L2.St → XK} {x : Str} {p pos : Pos} {e : Expr} {es : List Expr} {kws : List Keyword} {t tk : TA} {g : {α : Type} → List α → List α → List α}
theorem run_kw {pins : List (Addr × Obj)} {σ : L2.St} {H : Hp} {s : Shared} {Q : VK} {us ws : List Value} {vs zs : List V} (F : FnOk X.prog X.w X.K X.mg X.base CX k f fd ps sp) (room : Room k X.A) (bnd : KwB X.K fd ps n ks g) (px : PassesAt CX X σ (E σ))
    (I : Inv X pins σ H s) (rv : Vals vs us) (rz : Vals zs ws) (l1 : vs.length = n) (l2 : zs.length = ks.length) (hsp : sp (g vs zs) H Q (E σ)) : wpAny (model X.prog X.w) X.A (call (.ref f) us (ks.zip ws)) (EP X pins σ Q) X.xe s := by
  apply wpAny_call
  refine codeAny_mono (F.run X.A X.stack s H ⟨us, ks.zip ws⟩ (g us ws) (g vs zs) Q (E σ) room I.env0 (.of_eq (bnd.to us ws (rv.length.symm.trans l1) (rz.length.symm.trans l2))) (bnd.rel l1 l2 rv rz) hsp) fun r s' got => ?_
  match r, got with
  | .error er, got => exact px pins H s er s' I got
  | .ok (.ret u), got => exact I.after got
  | .ok .next, got => exact got.elim
  | .ok .brk, got => exact got.elim
  | .ok .cont, got => exact got.elim
/-- f(k = v, ..) -/
theorem pe_kw0 (F : FnOk X.prog X.w X.K X.mg X.base CX k f fd ps sp) (room : Room k X.A) (gl : Gl X x) (m : X.mg x = some (.ref f)) (kp : PySem.W.keepIn X.K (.ref f) = true) (bnd : KwB X.K fd ps 0 ks g) (px : ∀ σ, PassesAt CX X σ (E σ)) (kw : PK X kws tk)
    (h1 : (backToKw pos (keywordEach kws X.env)).all (·.1.isSome) = true := by rfl) (h2 : (backToKw pos (keywordEach kws X.env)).filterMap (·.1) = ks := by rfl) (h3 : (x == ("__debug__" : Str)) = false := by decide)
    (h4 : ((backTo pos (starEach [] X.env)).any (·.1) || (backToKw pos (keywordEach kws X.env)).any (·.1.isNone)) = false := by rfl) : PE X (.Call (.Name x p) [] kws pos) (tCallKw 0 ks.length sp g E tNil tk) := by
  constructor
  intro pins s σ H Q I h
  apply wpAny_Call_Name_kw
  refine ld_glob I gl m ?_ h3
  refine PySem.W.callWith_KW0 (h₀ := X.base) I.ok.mod.kin kp h1 ?_ h4
  refine thn (kw.run pos pins s σ H _ I h) fun ws s2 got => ?_
  obtain ⟨zs, H2, I2, rz, l1, l2, q2⟩ := got
  rw [h2]
  exact ⟨I2.kIn, run_kw (us := []) (vs := []) F room bnd (px σ) I2 .nil rz rfl l2 q2⟩
/-- f(e, .., k = v, ..) -/
theorem pe_kw (F : FnOk X.prog X.w X.K X.mg X.base CX k f fd ps sp) (room : Room k X.A) (gl : Gl X x) (m : X.mg x = some (.ref f)) (kp : PySem.W.keepIn X.K (.ref f) = true) (bnd : KwB X.K fd ps n ks g) (px : ∀ σ, PassesAt CX X σ (E σ)) (ha : PA X (e :: es) t) (kw : PK X kws tk)
    (h1 : (backToKw pos (keywordEach kws X.env)).all (·.1.isSome) = true := by rfl) (h2 : (backToKw pos (keywordEach kws X.env)).filterMap (·.1) = ks := by rfl) (h3 : (x == ("__debug__" : Str)) = false := by decide)
    (h5 : starEach (e :: es) X.env = (false, eval e X.env) :: starEach es X.env := by rfl) (h4 : ((backTo pos (starEach (e :: es) X.env)).any (·.1) || (backToKw pos (keywordEach kws X.env)).any (·.1.isNone)) = false := by rfl) :
    PE X (.Call (.Name x p) (e :: es) kws pos) (tCallKw n ks.length sp g E t tk) := by
  constructor
  intro pins s σ H Q I h
  apply wpAny_Call_Name_kw
  refine ld_glob I gl m ?_ h3
  refine PySem.W.callWith_KW (h₀ := X.base) I.ok.mod.kin kp h1 (thn (ha.run pos pins s σ H _ I h) fun us s1 got => ?_) h4 h5
  obtain ⟨vs, H1, I1, rv, q⟩ := got
  refine thn (kw.run pos pins s1 σ H1 _ I1 q) fun ws s2 got => ?_
  obtain ⟨zs, H2, I2, rz, l1, l2, q2⟩ := got
  rw [h2]
  exact ⟨I2.kIn, run_kw F room bnd (px σ) I2 rv rz l1 l2 q2⟩
theorem passAt_of {X : Cx} {CX : CXT} {E : XK} (h : Passes CX X E) (σ : L2.St) : PassesAt CX X σ E := fun pins H s e s' I c => h pins σ H s e s' I c
/-- in a def that lets exceptions out: what a callee lets out goes on -/
theorem passC {X : Cx} {E : XK} (tk : Takes X (fun cls d _ H => E cls d H)) : Passes (L2.CX X.prog X.w) X E := passes_call tk fun _ _ _ _ h => h
end
/-- the drawing box at p: three ints, drawn n times at most -/
def BoxAt (H : Hp) (p : Addr) (n : Nat) : Prop := ∃ d s c : Int, H p = some (.lst [.int d, .int s, .int c]) ∧ 0 ≤ d ∧ 0 ≤ s ∧ s < 2147483629 ∧ 0 ≤ c ∧ c ≤ n
/-- H0: all that is known beside the box -/
structure BoxIn (H0 H : Hp) (p : Addr) (n : Nat) : Prop where
  same : Same H0 H
  free : H0 p = none
  box : BoxAt H p n
theorem BoxAt.mono {H : Hp} {p : Addr} {n m : Nat} (b : BoxAt H p n) (h : n ≤ m) : BoxAt H p m := by
  obtain ⟨d, s, c, h1, h2, h3, h4, h5, h6⟩ := b
  exact ⟨d, s, c, h1, h2, h3, h4, h5, by omega⟩
theorem BoxIn.mono {H0 H : Hp} {p : Addr} {n m : Nat} (b : BoxIn H0 H p n) (h : n ≤ m) : BoxIn H0 H p m := ⟨b.same, b.free, b.box.mono h⟩
/-- a pure step behind it -/
theorem BoxIn.keep {H0 H H' : Hp} {p : Addr} {n : Nat} (b : BoxIn H0 H p n) (s : Same H H') : BoxIn H0 H' p n := by
  obtain ⟨d, s', c, h1, h⟩ := b.box
  exact ⟨b.same.trans s, b.free, d, s', c, s _ _ h1, h⟩
/-- a new object becomes known -/
theorem BoxIn.new {H0 H : Hp} {p q : Addr} {n : Nat} {o : HO} (b : BoxIn H0 H p n) (hq : H q = none) : BoxIn (upd H0 q o) (upd H q o) p n ∧ Same H0 (upd H0 q o) := by
  obtain ⟨d, s', c, h1, h⟩ := b.box
  have npq : p ≠ q := ne_of_none h1 hq
  refine ⟨⟨fun x u e => ?_, by rw [upd_ne npq]; exact b.free, d, s', c, by rw [upd_ne npq]; exact h1, h⟩, fun x u e => ?_⟩
  · by_cases hx : x = q
    · subst hx
      rw [upd_same] at e ⊢
      exact e
    · rw [upd_ne hx] at e ⊢
      exact b.same _ _ e
  · rw [upd_ne (ne_of_none e (b.same.free hq))]
    exact e
/-- all that is tracked now, the box aside, is known -/
def but (H : Hp) (p : Addr) : Hp := fun q => if q = p then none else H q
theorem but_same {H : Hp} {p : Addr} : but H p p = none := by unfold but; rw [if_pos rfl]
theorem but_ne {H : Hp} {p q : Addr} (h : q ≠ p) : but H p q = H q := by unfold but; rw [if_neg h]
theorem BoxIn.all {H0 H : Hp} {p : Addr} {n : Nat} (b : BoxIn H0 H p n) : BoxIn (but H p) H p n ∧ Same H0 (but H p) := by
  refine ⟨⟨fun x u e => ?_, but_same, b.box⟩, fun x u e => ?_⟩
  · by_cases hx : x = p
    · subst hx
      rw [but_same] at e
      cases e
    · rw [but_ne hx] at e
      exact e
  · have hx : x ≠ p := fun q => by
      rw [q, b.free] at e
      cases e
    rw [but_ne hx]
    exact b.same _ _ e

def sp_law_cell (K : PySem.W.Frag) : Sp := fun vs H Q _ => ∃ (a : Addr) (ns : List Int) (k : Int), vs = [.ref a, .int k] ∧ SqL K H a (ns.map V.int) ∧ 0 ≤ k ∧ ∀ z, Q (.int z) H
def sp_law_box : Sp := fun vs H Q _ => ∃ z : Int, vs = [.int z] ∧ ∀ p o, H p = none → BoxAt (upd H p o) p 0 → Q (.ref p) (upd H p o)
def sp_law_take : Sp := fun vs H Q _ => ∃ (H0 : Hp) (p : Addr) (n : Nat) (m : Int), vs = [.ref p, .int m] ∧ BoxIn H0 H p n ∧ n < 1000000 ∧ 0 < m ∧ m < 1000000 ∧
  ∀ (z : Int) (H' : Hp), 0 ≤ z → z < m → BoxIn H0 H' p (n + 1) → Q (.int z) H'
/-- what the law's promise is: a list of at most 63 ints is handed in, True comes out -/
def sp_law (K : PySem.W.Frag) : Sp := fun vs H Q _ => ∃ (a : Addr) (ns : List Int), vs = [.ref a] ∧ SqL K H a (ns.map V.int) ∧ ns.length ≤ 63 ∧ ∀ H', Q (.bl true) H'
/-! ### values as data -/
theorem same_t {K : PySem.W.Frag} {H H' : Hp} {a : Addr} {xs : List V} (e : Same H H') (h : SqT K H a xs) : SqT K H' a xs := by
  rcases h with (h | ⟨o, h⟩) | h
  · exact .inl (.inl (e _ _ h))
  · exact .inl (.inr ⟨o, e _ _ h⟩)
  · exact .inr h
mutual
theorem dp_mono {K : PySem.W.Frag} {H H' : Hp} (e : Same H H') : ∀ {v : V} {d : PyData}, Dp K H v d → Dp K H' v d
  | _, _, .non => .non
  | _, _, .bl b => .bl b
  | _, _, .int i => .int i
  | _, _, .str x => .str x
  | _, _, .lst h a => .lst (e.seq h) (dpAll_mono e a)
  | _, _, .tup h a => .tup (same_t e h) (dpAll_mono e a)
theorem dpAll_mono {K : PySem.W.Frag} {H H' : Hp} (e : Same H H') : ∀ {vs : List V} {ds : List PyData}, DpAll K H vs ds → DpAll K H' vs ds
  | _, _, .nil => .nil
  | _, _, .cons a b => .cons (dp_mono e a) (dpAll_mono e b)
end
theorem dpAll_get {K : PySem.W.Frag} {H : Hp} : ∀ {vs : List V} {ds : List PyData} {i : Nat} {v : V}, DpAll K H vs ds → vs[i]? = some v → ∃ d, ds[i]? = some d ∧ Dp K H v d
  | _, _, 0, _, .cons a _, h => ⟨_, rfl, by cases h; exact a⟩
  | _, _, i + 1, _, .cons _ b, h => dpAll_get (i := i) b h
theorem dpAll_len {K : PySem.W.Frag} {H : Hp} : ∀ {vs : List V} {ds : List PyData}, DpAll K H vs ds → vs.length = ds.length
  | _, _, .nil => rfl
  | _, _, .cons _ b => congrArg (· + 1) (dpAll_len b)
theorem dpAll_strs {K : PySem.W.Frag} {H : Hp} : ∀ ss : List Str, DpAll K H (ss.map V.str) (ss.map PyData.str)
  | [] => .nil
  | s :: r => .cons (.str s) (dpAll_strs r)
theorem dpAll_bls {K : PySem.W.Frag} {H : Hp} : ∀ bs : List Bool, DpAll K H (bs.map V.bl) (bs.map PyData.bool)
  | [] => .nil
  | b :: r => .cons (.bl b) (dpAll_bls r)
theorem eqv_nil (ds : List PyData) : PyData.eqv (.list ds) (.list []) = ds.isEmpty := by
  cases ds with
  | nil => simp [PyData.eqv, PyData.eqvAll]
  | cons d r => simp [PyData.eqv, PyData.eqvAll]
theorem shaped_nil : SeqAt.shaped (.list []) = true := by decide +kernel
theorem canAll_mem {ds : List PyData} : PyData.canLayAll0 ds = true ↔ ∀ d ∈ ds, d.canLay0 = true := by
  induction ds with
  | nil => simp [PyData.canLayAll0]
  | cons d r ih => simp [PyData.canLayAll0, ih]
theorem depthAll_le {ds : List PyData} {n : Nat} (h : ∀ d ∈ ds, d.depth ≤ n) : PyData.depthAll ds ≤ n := by
  induction ds with
  | nil => simp [PyData.depthAll]
  | cons d r ih =>
    have h1 := h d (List.mem_cons_self)
    have h2 := ih fun x hx => h x (List.mem_cons_of_mem _ hx)
    simp only [PyData.depthAll]
    omega
theorem depthAll_mem {ds : List PyData} {d : PyData} (h : d ∈ ds) : d.depth ≤ PyData.depthAll ds := by
  induction ds with
  | nil => cases h
  | cons e r ih =>
    simp only [PyData.depthAll]
    rcases List.mem_cons.mp h with rfl | h
    · omega
    · have := ih h
      omega
theorem shaped_iff {d : PyData} : SeqAt.shaped d = true ↔ d.canLay0 = true ∧ d.depth ≤ 64 := by
  unfold SeqAt.shaped
  rw [Bool.and_eq_true, decide_eq_true_iff]
/-- a list of data that are d deep at most -/
theorem shaped_list {ds : List PyData} {n : Nat} (hn : n < 64) (h : ∀ d ∈ ds, d.canLay0 = true ∧ d.depth ≤ n) : SeqAt.shaped (.list ds) = true := by
  refine shaped_iff.mpr ⟨?_, ?_⟩
  · simp only [PyData.canLay0]
    exact canAll_mem.mpr fun d hd => (h d hd).1
  · have := depthAll_le fun d hd => (h d hd).2
    simp only [PyData.depth]
    omega
theorem shaped_of_tuple {ds : List PyData} (h : SeqAt.shaped (.tuple ds) = true) {d : PyData} (hd : d ∈ ds) : d.canLay0 = true ∧ d.depth ≤ 63 := by
  obtain ⟨h1, h2⟩ := shaped_iff.mp h
  simp only [PyData.canLay0] at h1
  simp only [PyData.depth] at h2
  have := depthAll_mem hd
  exact ⟨canAll_mem.mp h1 d hd, by omega⟩
/-- a value and what it is: data of any depth, or a dict (none) -/
inductive VD (K : PySem.W.Frag) (H : Hp) : V → Option PyData → Prop where
  | dat {v : V} {d : PyData} : Dp K H v d → SeqAt.shaped d = true → (∀ s, d = .str s → s.length ≤ 1000) → VD K H v (some d)
  | dic {a : Addr} {kvs : List (Key × V)} : H a = some (.dK kvs) → VD K H (.ref a) none
theorem VD.mono {K : PySem.W.Frag} {H H' : Hp} (e : Same H H') {v : V} {o : Option PyData} (h : VD K H v o) : VD K H' v o := by
  cases h with
  | dat a b c => exact .dat (dp_mono e a) b c
  | dic a => exact .dic (e _ _ a)
def tyD : PyData → String
  | .none => "NoneType" | .bool _ => "bool" | .int _ => "int" | .str _ => "str" | .list _ => "list" | .tuple _ => "tuple" | .dict _ => "dict"
def tyO : Option PyData → String
  | none => "dict"
  | some d => tyD d
theorem dp_ty {K : PySem.W.Frag} {H : Hp} {v : V} {d : PyData} (h : Dp K H v d) : TyX K H v (.type (tyD d)) := by
  cases h with
  | non => exact .base .non
  | bl b => exact .base (.bl b)
  | int i => exact .base (.int i)
  | str x => exact .base (.str x)
  | lst h _ =>
    rcases h with (h | ⟨o, h⟩) | ⟨o, its, n, h, c, _⟩
    · exact .base (.lst h)
    · exact .base (.frz h)
    · exact .kList h c
  | tup h _ =>
    rcases h with (h | ⟨o, h⟩) | ⟨o, its, n, h, c, _⟩
    · exact .base (.tup h)
    · exact .fTuple h
    · exact .kTuple h c
theorem VD.ty {K : PySem.W.Frag} {H : Hp} {v : V} {o : Option PyData} (h : VD K H v o) : TyX K H v (.type (tyO o)) := by
  cases h with
  | dat a _ _ => exact dp_ty a
  | dic a => exact .base (.dK a)
def isT (T : String) (o : Option PyData) : Bool := tyO o == T || (T == "int" && tyO o == "bool")
theorem tyO_mem (o : Option PyData) : tyO o = "NoneType" ∨ tyO o = "bool" ∨ tyO o = "int" ∨ tyO o = "str" ∨ tyO o = "list" ∨ tyO o = "tuple" ∨ tyO o = "dict" := by
  rcases o with _ | d
  · simp [tyO]
  · cases d <;> simp [tyO, tyD]
theorem kit_o {K : PySem.W.Frag} (o : Option PyData) {T : String} (hT : T = "int" ∨ T = "bool" ∨ T = "str" ∨ T = "tuple") : PySem.W.kitOne K (.type (tyO o)) (.type T) = some (isT T o) := by
  have h := tyO_mem o
  unfold isT
  generalize tyO o = nm at h ⊢
  rcases hT with rfl | rfl | rfl | rfl
  all_goals
    rcases h with rfl | rfl | rfl | rfl | rfl | rfl | rfl
    all_goals exact kit_ty (by decide +kernel)
def nonO : Option PyData → Bool
  | some .none => true
  | _ => false
theorem vd_non {K : PySem.W.Frag} {H : Hp} {v : V} {o : Option PyData} (h : VD K H v o) : decide (v = .non) = nonO o := by
  cases h with
  | dat a _ _ => cases a <;> rfl
  | dic a => rfl
theorem iteFe {c : Bool} {A B : Prop} (h : c = false) (q : B) : if c = true then A else B := by
  subst h
  exact iteF q
theorem iteTe {c : Bool} {A B : Prop} (h : c = true) (q : A) : if c = true then A else B := by
  subst h
  exact iteT q
theorem tyes {te : TE} {σ : L2.St} {H : Hp} {R : V → Hp → Prop} {S : Hp → Prop} (h : te σ H R) : tYes σ H (fun b H3 => if b = true then te σ H3 R else S H3) := by
  show (if true = true then te σ H R else S H)
  exact iteT h
/-! ### comprehensions that change nothing: acc i is what is made behind i turns -/
theorem lc_acc {J : It} {n : Nat} {G : Hp → Prop} {item : Nat → V → Prop} {g : TG} {tt : TT} {te : TE} {vs : List Nat} {σ : L2.St} {H1 : Hp} {D : Addr} {Qd : Hp → Prop} (w : Walk J n G (fun i H x H' => H' = H ∧ item i x)) (hD : H1 D = none) (hG : ∀ H, Same H1 H → G H) (acc : Nat → List V) (h0 : acc 0 = []) (hz : ∀ i, i < n → (acc i).length < sizeLine)
    (hs : ∀ (i : Nat) (x : V) (H : Hp), i < n → item i x → Same H1 H → ∀ (R : V → Hp → Prop) (S : Hp → Prop), (∀ y H4, acc (i + 1) = acc i ++ [y] → Same H H4 → R y H4) → (∀ H3, acc (i + 1) = acc i → Same H H3 → S H3) →
      g x (wipe σ vs) H fun σ2 H2 => wipe σ2 vs = wipe σ vs ∧ tt σ2 H2 fun b H3 => if b = true then te σ2 H3 R else S H3)
    (hd : ∀ H, Same H1 H → H D = some (.lst (acc n)) → Qd H) : ∃ W : Nat → Nat → Hp → Prop, (∃ m, W 0 m (upd H1 D (.lst []))) ∧ ∀ i m H, W i m H →
      (J.stop i H ∧ Qd H) ∨ (J.go i H ∧ ∃ Nx : Hp → Prop, (∀ H', Nx H' → ∃ m', m' < m ∧ W (i + 1) m' H') ∧ ∀ x H', J.yld i H x H' → g x (wipe σ vs) H' fun σ2 H2 => wipe σ2 vs = wipe σ vs ∧ tt σ2 H2 fun b H3 =>
        if b = true then te σ2 H3 fun y H4 => ∃ acc, H4 D = some (.lst acc) ∧ acc.length < sizeLine ∧ Nx (upd H4 D (.lst (acc ++ [y]))) else Nx H3) := by
  refine lc_it w (fun i H => Same H1 H ∧ H D = some (.lst (acc i))) ⟨fun b o e => ?_, ?_⟩ (fun i H _ p => hG H p.1) ?_ (fun H p => hd H p.1 p.2)
  · rw [upd_ne (ne_of_none e hD)]
    exact e
  · rw [upd_same, h0]
  · rintro i x H H' hi ⟨s1, hl⟩ ⟨rfl, hx⟩
    refine hs i x _ hi hx s1 _ _ (fun y H4 e s2 => ⟨acc i, s2 _ _ hl, hz i hi, ⟨fun b o eb => ?_, by rw [upd_same, e]⟩⟩) (fun H3 e s2 => ⟨s1.trans s2, by rw [e]; exact s2 _ _ hl⟩)
    rw [upd_ne (ne_of_none eb hD)]
    exact s2 _ _ (s1 _ _ eb)
/-! ### texts and their bounds -/
theorem same_new {H : Hp} {q : Addr} {o : HO} (h : H q = none) : Same H (upd H q o) := fun b u e => by
  rw [upd_ne (ne_of_none e h)]
  exact e
/-- at most n signs, all of them signs -/
def sOk (n : Nat) (s : Str) : Prop := s.length ≤ n ∧ PyData.strOk s = true
theorem strOk_iff {s : Str} : PyData.strOk s = true ↔ ∀ c ∈ s.cps.toList, c < 0x110000 := by
  unfold PyData.strOk
  rw [Array.all_eq_true']
  constructor
  · intro h c hc
    exact of_decide_eq_true (h c (by simpa using hc))
  · intro h c hc
    exact decide_eq_true (h c (by simpa using hc))
theorem sOk.mono {n m : Nat} {s : Str} (h : sOk n s) (e : n ≤ m) : sOk m s := ⟨Nat.le_trans h.1 e, h.2⟩
theorem sOk.app {n m : Nat} {a b : Str} (h : sOk n a) (k : sOk m b) : sOk (n + m) (a ++ b) := by
  refine ⟨?_, strOk_iff.mpr fun c hc => ?_⟩
  · rw [Str.length_append]
    exact Nat.add_le_add h.1 k.1
  · rw [Str.cps_append, Array.toList_append] at hc
    rcases List.mem_append.mp hc with q | q
    · exact strOk_iff.mp h.2 c q
    · exact strOk_iff.mp k.2 c q
theorem sOk.cut {n : Nat} {a : Str} (h : sOk n a) (lo hi : Option Int) : sOk n (cutS a lo hi) := by
  refine ⟨Nat.le_trans (cutS_length _ _ _) h.1, strOk_iff.mpr fun c hc => ?_⟩
  unfold cutS at hc
  have hc' : c ∈ a.cps.toList := List.mem_of_mem_drop (List.mem_of_mem_take (by simpa using hc))
  exact strOk_iff.mp h.2 c hc'
theorem joinL_nil : ∀ ps : List (List Nat), TL.joinL [] ps = ps.flatten
  | [] => rfl
  | [p] => by simp [TL.joinL]
  | p :: q :: r => by
    have ih := joinL_nil (q :: r)
    simp only [TL.joinL, ih]
    simp
theorem flat_len : ∀ (ys : List Str) (n : Nat), (∀ y ∈ ys, y.length ≤ n) → ((ys.map TL.tl).flatten).length ≤ ys.length * n
  | [], _, _ => by simp
  | y :: r, n, h => by
    have ih := flat_len r n fun z hz => h z (List.mem_cons_of_mem _ hz)
    have h1 : y.length ≤ n := h y List.mem_cons_self
    have h2 : (TL.tl y).length = y.length := by simp [TL.tl, Str.length]
    simp only [List.map_cons, List.flatten_cons, List.length_append, List.length_cons, Nat.add_mul, Nat.one_mul]
    omega
theorem join_ok {ys : List Str} {n : Nat} (h : ∀ y ∈ ys, sOk n y) : sOk (ys.length * n) (Txt.join Str.empty ys) := by
  have e : TL.tl (Txt.join Str.empty ys) = (ys.map TL.tl).flatten := by
    rw [TL.join_eq, TL.tl_join]
    exact joinL_nil _
  refine ⟨?_, strOk_iff.mpr fun c hc => ?_⟩
  · have h1 : (Txt.join Str.empty ys).length = (TL.tl (Txt.join Str.empty ys)).length := by simp [TL.tl, Str.length]
    rw [h1, e]
    exact flat_len ys n fun y hy => (h y hy).1
  · have hc' : c ∈ TL.tl (Txt.join Str.empty ys) := hc
    rw [e] at hc'
    obtain ⟨l, hl, hcl⟩ := List.mem_flatten.mp hc'
    obtain ⟨y, hy, rfl⟩ := List.mem_map.mp hl
    exact strOk_iff.mp (h y hy).2 c hcl
theorem sum_le : ∀ (ys : List Str) (n : Nat), (∀ y ∈ ys, y.length ≤ n) → (ys.map (·.length)).sum ≤ ys.length * n
  | [], _, _ => by simp
  | y :: r, n, h => by
    have ih := sum_le r n fun z hz => h z (List.mem_cons_of_mem _ hz)
    have h1 : y.length ≤ n := h y List.mem_cons_self
    simp only [List.map_cons, List.sum_cons, List.length_cons, Nat.add_mul, Nat.one_mul]
    omega
/-- an item at an open place within -/
theorem atI_in {α : Type} {xs : List α} {z : Int} (h0 : 0 ≤ z) (h1 : z < xs.length) : ∃ v, atI xs z = some v ∧ v ∈ xs := by
  obtain ⟨j, rfl⟩ := Int.eq_ofNat_of_zero_le h0
  have hj : j < xs.length := by omega
  exact ⟨xs[j], atI_nat (List.getElem?_eq_getElem hj), List.getElem_mem hj⟩
theorem op_mul_str {X : Cx} : OpR X (binaryOp .Mult) (fun x y H Q => ∃ z n, x = .str z ∧ y = .int n ∧ MulOk z n ∧ Q (.str (Txt.mul z n)) H) := by
  intro pins s σ H x y v u Q I rx ry h
  obtain ⟨z, n, rfl, rfl, hz, q⟩ := h
  obtain ⟨t, rfl⟩ := rx
  obtain ⟨t', rfl⟩ := ry
  exact SB.mul hz fun t' tk => ⟨.str (Txt.mul z n), H, I.tok _, ⟨_, rfl⟩, q⟩
theorem BoxIn.low {H0 H1 H : Hp} {p : Addr} {n : Nat} (b : BoxIn H1 H p n) (s : Same H0 H1) : BoxIn H0 H p n := ⟨s.trans b.same, s.free b.free, b.box⟩
theorem BoxIn.mut {H0 H : Hp} {p D : Addr} {n : Nat} {o : HO} (b : BoxIn H0 H p n) (h1 : D ≠ p) (h2 : H0 D = none) : BoxIn H0 (upd H D o) p n := by
  obtain ⟨d, s', c, h, hh⟩ := b.box
  refine ⟨fun x u e => ?_, b.free, d, s', c, by rw [upd_ne h1.symm]; exact h, hh⟩
  rw [upd_ne (ne_of_none e h2)]
  exact b.same _ _ e
/-- what a def draws: Good of the value, with what is known then -/
def sp_draw (c : Nat) (Good : Hp → V → Prop) : Sp := fun vs H Q _ => ∃ (H0 : Hp) (p : Addr) (n : Nat), vs = [.ref p] ∧ BoxIn H0 H p n ∧ n + c < 1000000 ∧ ∀ (H1 H' : Hp) (v : V), Same H0 H1 → BoxIn H1 H' p (n + c) → Good H1 v → Q v H'
/-! ### the mirror -/
def intO (o : Option PyData) : Bool := isT "int" o && !isT "bool" o
def limO (o : Option PyData) : Bool := nonO o || intO o
def okSign (c : Nat) : Bool := !decide (([c] : List Nat) < [97]) && !decide (([122] : List Nat) < [c])
def nameS (s : Str) : Bool := !(s == ("table" : Str)) && (decide ((1 : Int) ≤ s.length) && (decide ((s.length : Int) ≤ 8) && s.cps.toList.all okSign))
def nameO : Option PyData → Bool
  | some (.str s) => nameS s
  | _ => false
def ltO : PyData → PyData → Bool
  | .int i, .int j => decide (i < j)
  | _, _ => true
def spanO : Option PyData → Bool
  | some (.tuple [l, h]) => limO (some l) && (limO (some h) && ltO l h)
  | _ => false
theorem spanO_no {ds : List PyData} (h : ds.length ≠ 2) : spanO (some (.tuple ds)) = false := by
  match ds, h with
  | [], _ => rfl
  | [_], _ => rfl
  | [_, _], hl => exact absurd rfl hl
  | _ :: _ :: _ :: _, _ => rfl
theorem dp_two {K : PySem.W.Frag} {H : Hp} {xs : List V} {ds : List PyData} (h : DpAll K H xs ds) (e : xs.length = 2) : ∃ x y d e, xs = [x, y] ∧ ds = [d, e] ∧ Dp K H x d ∧ Dp K H y e := by
  match xs, ds, h, e with
  | [x, y], [d, e], .cons h1 (.cons h2 .nil), _ => exact ⟨x, y, d, e, rfl, rfl, h1, h2⟩
theorem spanO_ty {o : Option PyData} (e : isT "tuple" o = false) : spanO o = false := by
  rcases o with _ | d
  · rfl
  · cases d with
    | tuple s => cases e
    | _ => rfl
theorem nameO_no {o : Option PyData} (e : isT "str" o = false) : nameO o = false := by
  rcases o with _ | d
  · rfl
  · cases d with
    | str s => cases e
    | _ => rfl
theorem VD.str_of {K : PySem.W.Frag} {H : Hp} {v : V} {o : Option PyData} (hv : VD K H v o) (e : isT "str" o = true) : ∃ s, v = .str s ∧ o = some (.str s) ∧ s.length ≤ 1000 ∧ PyData.strOk s = true := by
  cases hv with
  | dat a b c =>
    cases a with
    | str s =>
      have := (shaped_iff.mp b).1
      simp only [PyData.canLay0] at this
      exact ⟨s, rfl, rfl, c s rfl, this⟩
    | _ => cases e
  | dic a => cases e
theorem VD.tup_of {K : PySem.W.Frag} {H : Hp} {v : V} {o : Option PyData} (hv : VD K H v o) (e : isT "tuple" o = true) : ∃ a xs ds, v = .ref a ∧ o = some (.tuple ds) ∧ SqT K H a xs ∧ DpAll K H xs ds ∧ SeqAt.shaped (.tuple ds) = true := by
  cases hv with
  | dat a b c =>
    cases a with
    | tup h1 h2 => exact ⟨_, _, _, rfl, rfl, h1, h2, b⟩
    | _ => cases e
  | dic a => cases e
theorem strOk_mem {s : Str} (h : PyData.strOk s = true) {c : Nat} (hc : c ∈ s.cps.toList) : c < 0x110000 := by
  unfold PyData.strOk at h
  rw [Array.all_eq_true'] at h
  exact of_decide_eq_true (h c (by simpa using hc))
theorem strOk_sign {c : Nat} (h : c < 0x110000) : PyData.strOk ⟨#[c]⟩ = true := by
  unfold PyData.strOk
  simp
  omega
/-- the values that are no limits -/
def filt : List V → List PyData → List V
  | x :: xs, d :: ds => if limO (some d) = true then filt xs ds else x :: filt xs ds
  | _, _ => []
theorem filt_len : ∀ (xs : List V) (ds : List PyData), (filt xs ds).length ≤ xs.length
  | [], _ => by simp [filt]
  | _ :: _, [] => by simp [filt]
  | x :: xs, d :: ds => by
    have ih := filt_len xs ds
    simp only [filt]
    split
    · simp only [List.length_cons]
      omega
    · simp only [List.length_cons]
      omega
theorem filt_step : ∀ {xs : List V} {ds : List PyData} {i : Nat} {x : V} {d : PyData}, xs[i]? = some x → ds[i]? = some d → filt (xs.take (i + 1)) (ds.take (i + 1)) = if limO (some d) = true then filt (xs.take i) (ds.take i) else filt (xs.take i) (ds.take i) ++ [x]
  | [], _, _, _, _, h, _ => by simp at h
  | _ :: _, [], _, _, _, _, h => by simp at h
  | y :: ys, e :: es, 0, x, d, h1, h2 => by
    cases h1
    cases h2
    simp [filt]
  | y :: ys, e :: es, i + 1, x, d, h1, h2 => by
    have ih := filt_step (xs := ys) (ds := es) (i := i) (x := x) (d := d) (by simpa using h1) (by simpa using h2)
    simp only [List.take_succ_cons, filt, ih]
    split <;> split <;> simp
theorem filt_dp {K : PySem.W.Frag} {H : Hp} : ∀ {xs : List V} {ds : List PyData}, DpAll K H xs ds → DpAll K H (filt xs ds) (ds.filter fun d => !limO (some d))
  | _, _, .nil => by simp [filt]; exact .nil
  | _, _, .cons (v := v) (d := d) a b => by
    have ih := filt_dp b
    simp only [filt]
    cases h : limO (some d) with
    | true =>
      simp [h]
      exact ih
    | false =>
      simp [h]
      exact .cons a ih
theorem okSign_is (c : Nat) : okSign c = decide (c ∈ ("abcdefghijklmnopqrstuvwxyz" : Str).cps.toList) := by
  have e : ("abcdefghijklmnopqrstuvwxyz" : Str).cps.toList = [97, 98, 99, 100, 101, 102, 103, 104, 105, 106, 107, 108, 109, 110, 111, 112, 113, 114, 115, 116, 117, 118, 119, 120, 121, 122] := by decide +kernel
  rw [e]
  unfold okSign
  rw [Bool.eq_iff_iff, Bool.and_eq_true, decide_eq_true_iff, Bool.not_eq_true', Bool.not_eq_true', decide_eq_false_iff_not, decide_eq_false_iff_not]
  simp only [List.cons_lt_cons_iff, List.not_lt_nil, and_false, or_false, List.mem_cons, List.not_mem_nil]
  omega
def sp_v1 (K : PySem.W.Frag) (f : Option PyData → Bool) : Sp := fun vs H Q _ => ∃ (v : V) (o : Option PyData), vs = [v] ∧ VD K H v o ∧ ∀ H', Same H H' → Q (.bl (f o)) H'
/-- the same without a word on the heap: nothing is made -/
def sp_v0 (K : PySem.W.Frag) (f : Option PyData → Bool) : Sp := fun vs H Q _ => ∃ (v : V) (d : PyData), vs = [v] ∧ Dp K H v d ∧ Q (.bl (f (some d))) H
def sp_vO (K : PySem.W.Frag) (f : Option PyData → Bool) : Sp := fun vs H Q _ => ∃ (v : V) (o : Option PyData), vs = [v] ∧ TyX K H v (.type (tyO o)) ∧ decide (v = .non) = nonO o ∧ Q (.bl (f o)) H
theorem dp_vO {K : PySem.W.Frag} {H : Hp} {v : V} {d : PyData} (h : Dp K H v d) : TyX K H v (.type (tyO (some d))) ∧ decide (v = .non) = nonO (some d) := by
  refine ⟨dp_ty h, ?_⟩
  cases h <;> rfl
theorem vd_vO {K : PySem.W.Frag} {H : Hp} {v : V} {o : Option PyData} (h : VD K H v o) : TyX K H v (.type (tyO o)) ∧ decide (v = .non) = nonO o := ⟨h.ty, vd_non h⟩
/-! ### spans as two limits -/
abbrev Span := Option Int × Option Int
def limV : Option Int → V
  | none => .non
  | some i => .int i
def limD : Option Int → PyData
  | none => .none
  | some i => .int i
def okS : Span → Bool
  | (some l, some h) => decide (l < h)
  | _ => true
def spD (s : Span) : PyData := .tuple [limD s.1, limD s.2]
def spV (s : Span) : List V := [limV s.1, limV s.2]
def loB (l : Option Int) (k : Int) : Bool := match l with | none => true | some i => decide (i ≤ k)
def hiB (h : Option Int) (k : Int) : Bool := match h with | none => true | some i => decide (k < i)
def inS (s : Span) (k : Int) : Bool := loB s.1 k && hiB s.2 k
def maxO : Option Int → Option Int → Option Int
  | none, b => b
  | a, none => a
  | some a, some b => some (max a b)
def minO : Option Int → Option Int → Option Int
  | none, b => b
  | a, none => a
  | some a, some b => some (min a b)
def comS (s t : Span) : Span := (maxO s.1 t.1, minO s.2 t.2)
theorem spanO_ok (s : Span) : spanO (some (spD s)) = okS s := by
  obtain ⟨l, h⟩ := s
  cases l <;> cases h <;> rfl
theorem limO_of {d : PyData} (h : limO (some d) = true) : ∃ l, d = limD l := by
  cases d with
  | none => exact ⟨none, rfl⟩
  | int i => exact ⟨some i, rfl⟩
  | _ => cases h
theorem spanO_of {o : Option PyData} (h : spanO o = true) : ∃ s, o = some (spD s) ∧ okS s = true := by
  rcases o with _ | d
  · cases h
  · cases d with
    | tuple ds =>
      by_cases e : ds.length = 2
      · match ds, e with
        | [a, b], _ =>
          have h' : (limO (some a) && (limO (some b) && ltO a b)) = true := h
          rw [Bool.and_eq_true, Bool.and_eq_true] at h'
          obtain ⟨l, rfl⟩ := limO_of h'.1
          obtain ⟨u, rfl⟩ := limO_of h'.2.1
          exact ⟨(l, u), rfl, (spanO_ok (l, u)).symm.trans h⟩
      · rw [spanO_no e] at h
        cases h
    | _ => cases h
theorem dp_lim {K : PySem.W.Frag} {H : Hp} (l : Option Int) : Dp K H (limV l) (limD l) := by
  cases l with
  | none => exact .non
  | some i => exact .int i
theorem limD_inj {l u : Option Int} (h : limD l = limD u) : l = u := by
  cases l <;> cases u <;> cases h <;> rfl
theorem lim_of_dp {K : PySem.W.Frag} {H : Hp} {v : V} {l : Option Int} (h : Dp K H v (limD l)) : v = limV l := by
  cases l with
  | none => cases h; rfl
  | some i => cases h; rfl
theorem dpAll_spV {K : PySem.W.Frag} {H : Hp} (s : Span) : DpAll K H (spV s) [limD s.1, limD s.2] := .cons (dp_lim _) (.cons (dp_lim _) .nil)
theorem shaped_sp (s : Span) : SeqAt.shaped (spD s) = true := by
  obtain ⟨l, h⟩ := s
  cases l <;> cases h <;> rfl
theorem vd_sp {K : PySem.W.Frag} {H : Hp} {a : Addr} {s : Span} (h : SqT K H a (spV s)) : VD K H (.ref a) (some (spD s)) := .dat (.tup h (dpAll_spV s)) (shaped_sp s) fun x e => by cases e
theorem VD.sp {K : PySem.W.Frag} {H : Hp} {v : V} {s : Span} (h : VD K H v (some (spD s))) : ∃ a, v = .ref a ∧ SqT K H a (spV s) := by
  cases h with
  | dat d _ _ =>
    cases d with
    | tup h1 h2 =>
      cases h2 with
      | cons a b =>
        cases b with
        | cons c e =>
          cases e
          rw [lim_of_dp a, lim_of_dp c] at h1
          exact ⟨_, rfl, h1⟩
theorem intO_of {K : PySem.W.Frag} {H : Hp} {v : V} {o : Option PyData} (h : VD K H v o) (e : intO o = true) : ∃ i, v = .int i ∧ o = some (.int i) := by
  cases h with
  | dat a _ _ =>
    cases a with
    | int i => exact ⟨i, rfl, rfl⟩
    | _ => cases e
  | dic a => cases e
/-! ### what is raised -/
/-- an exception of the class at C leaves, with v as its field f -/
def Rz (H : Hp) (E : XK) (C : Addr) (f : Str) (v : V) : Prop := ∀ (d : Addr) (H' : Hp), H d = none → H' d = some (.xd [(f, v)]) → Same H H' → E (.ref C) (some d) H'
theorem Rz.back {H H1 : Hp} {E : XK} {C : Addr} {f : Str} {v : V} (s : Same H H1) (h : Rz H E C f v) : Rz H1 E C f v := fun d H' n x k => h d H' (s.free n) x (s.trans k)
/-- X.__init__: the one field -/
def sp_xinit (K : PySem.W.Frag) (C : Addr) (f : Str) : Sp := fun vs H Q _ => ∃ (a : Addr) (v : V), vs = [.ref a, v] ∧ OexC K C ∧ PySem.W.findIn K (.ref C) f = some none ∧ H a = some (exo a C none) ∧ ∀ dx, H dx = none → dx ≠ a → Q .non (upd (upd H dx (exd dx [(f, v)])) a (exo a C (some dx)))
/-- the reading of «raise X(v)» -/
theorem raise_x {K : PySem.W.Frag} {H : Hp} {E : XK} {C : Addr} {f : Str} {v : V} (x : OexC K C) (n : PySem.W.findIn K (.ref C) f = some none) (h : Rz H E C f v) : ([v] : List V).length ≤ 1000 ∧ ∀ a, H a = none → sp_xinit K C f (.ref a :: ([v] ++ [])) (upd H a (exo a C none))
    (fun v' H2 => v' = .non ∧ ∃ (d : Addr) (fs : List (Str × V)), H2 a = some (exo a C (some d)) ∧ H2 d = some (exd d fs) ∧ H d = none ∧ E (.ref C) (some d) (upd (del H2 a) d (.xd fs))) (fun _ _ _ => False) := by
  refine ⟨by show 1 ≤ 1000; decide, fun a ha => ⟨a, v, rfl, x, n, upd_same, fun dx hdx ne => ⟨rfl, dx, [(f, v)], upd_same, by rw [upd_ne ne, upd_same], ?_, ?_⟩⟩⟩
  · rw [upd_ne ne] at hdx
    exact hdx
  · rw [upd_ne ne] at hdx
    refine h dx _ hdx upd_same fun b o e => ?_
    have nb : b ≠ a := ne_of_none e ha
    have nd : b ≠ dx := ne_of_none e hdx
    rw [upd_ne nd, del_ne nb, upd_ne nb, upd_ne nd, upd_ne nb]
    exact e
/-! ### promises -/
def sp_req (K : PySem.W.Frag) (f : Option PyData → Bool) (C : Addr) (fld : Str) : Sp := fun vs H Q E => ∃ (v : V) (o : Option PyData), vs = [v] ∧ VD K H v o ∧ (f o = true → ∀ H', Same H H' → Q .non H') ∧ (f o = false → Rz H E C fld v)
def sp_in_span (K : PySem.W.Frag) (CS CK : Addr) : Sp := fun vs H Q E => ∃ (x y : V) (o o2 : Option PyData), vs = [x, y] ∧ VD K H x o ∧ VD K H y o2 ∧ (spanO o = false → Rz H E CS "value" x) ∧ (spanO o = true → intO o2 = false → Rz H E CK "value" y) ∧
  ∀ (s : Span) (k : Int), o = some (spD s) → okS s = true → o2 = some (.int k) → ∀ H', Same H H' → Q (.bl (inS s k)) H'
def sp_common (K : PySem.W.Frag) (CS : Addr) : Sp := fun vs H Q E => ∃ (x y : V) (o o2 : Option PyData), vs = [x, y] ∧ VD K H x o ∧ VD K H y o2 ∧ (spanO o = false → Rz H E CS "value" x) ∧ (spanO o = true → spanO o2 = false → Rz H E CS "value" y) ∧
  ∀ (s t : Span), o = some (spD s) → okS s = true → o2 = some (spD t) → okS t = true → (okS (comS s t) = true → ∀ p H', Same H H' → H p = none → H' p = some (.tup (spV (comS s t))) → Q (.ref p) H') ∧ (okS (comS s t) = false → ∀ H', Same H H' → Q .non H')
def sp_meet (K : PySem.W.Frag) (CS : Addr) : Sp := fun vs H Q E => ∃ (x y : V) (o o2 : Option PyData), vs = [x, y] ∧ VD K H x o ∧ VD K H y o2 ∧ (spanO o = false → Rz H E CS "value" x) ∧ (spanO o = true → spanO o2 = false → Rz H E CS "value" y) ∧
  ∀ (s t : Span), o = some (spD s) → okS s = true → o2 = some (spD t) → okS t = true → ∀ H', Same H H' → Q (.bl (okS (comS s t))) H'
def lowsL (a b : Option Int) : List Int := (a.toList ++ b.toList)
theorem limV_non (l : Option Int) : decide (limV l = .non) = l.isNone := by
  cases l <;> rfl
theorem max_none {a b : Option Int} (e : lowsL a b = []) : V.non = limV (maxO a b) := by
  cases a <;> cases b <;> first | rfl | cases e
theorem min_none {a b : Option Int} (e : lowsL a b = []) : V.non = limV (minO a b) := by
  cases a <;> cases b <;> first | rfl | cases e
theorem max_some {a b : Option Int} {m : Int} (h1 : m ∈ lowsL a b) (h2 : ∀ n ∈ lowsL a b, n ≤ m) : V.int m = limV (maxO a b) := by
  cases a with
  | none =>
    cases b with
    | none => cases h1
    | some y =>
      obtain rfl : m = y := by simpa [lowsL] using h1
      rfl
  | some x =>
    cases b with
    | none =>
      obtain rfl : m = x := by simpa [lowsL] using h1
      rfl
    | some y =>
      have hx := h2 x (by simp [lowsL])
      have hy := h2 y (by simp [lowsL])
      have hm : m = x ∨ m = y := by simpa [lowsL] using h1
      show V.int m = V.int (max x y)
      congr 1
      omega
theorem min_some {a b : Option Int} {m : Int} (h1 : m ∈ lowsL a b) (h2 : ∀ n ∈ lowsL a b, m ≤ n) : V.int m = limV (minO a b) := by
  cases a with
  | none =>
    cases b with
    | none => cases h1
    | some y =>
      obtain rfl : m = y := by simpa [lowsL] using h1
      rfl
  | some x =>
    cases b with
    | none =>
      obtain rfl : m = x := by simpa [lowsL] using h1
      rfl
    | some y =>
      have hx := h2 x (by simp [lowsL])
      have hy := h2 y (by simp [lowsL])
      have hm : m = x ∨ m = y := by simpa [lowsL] using h1
      show V.int m = V.int (min x y)
      congr 1
      omega
/-! ### the law's side -/
def sp_has (K : PySem.W.Frag) : Sp := fun vs H Q _ => ∃ (a : Addr) (s : Span) (i : Int), vs = [.ref a, .int i] ∧ SqT K H a (spV s) ∧ Q (.bl (inS s i)) H
def lim3 : Option Int → List Int
  | none => []
  | some i => [i - 1, i, i + 1]
def keysL (ss : List Span) : List Int := 0 :: ss.flatMap fun s => lim3 s.1 ++ lim3 s.2
def inner (s : Span) : Nat → List Int
  | 0 => []
  | 1 => lim3 s.1
  | _ => lim3 s.1 ++ lim3 s.2
theorem inner_at {s : Span} {j : Nat} {z : V} (h : (spV s)[j]? = some z) : ∃ o, z = limV o ∧ inner s (j + 1) = inner s j ++ lim3 o := by
  match j, h with
  | 0, h => cases h; exact ⟨s.1, rfl, rfl⟩
  | 1, h => cases h; exact ⟨s.2, rfl, rfl⟩
theorem lim3_len (o : Option Int) : (lim3 o).length ≤ 3 := by
  cases o <;> simp [lim3]
theorem inner_len (s : Span) (j : Nat) : (inner s j).length ≤ 6 := by
  have h1 := lim3_len s.1
  have h2 := lim3_len s.2
  match j with
  | 0 => simp [inner]
  | 1 => simp only [inner]; omega
  | j + 2 => simp only [inner, List.length_append]; omega
theorem keysL_len : ∀ ss : List Span, (keysL ss).length ≤ 6 * ss.length + 1
  | [] => by simp [keysL]
  | s :: r => by
    have ih := keysL_len r
    have h1 := lim3_len s.1
    have h2 := lim3_len s.2
    simp only [keysL, List.flatMap_cons, List.length_cons, List.length_append] at ih ⊢
    omega
theorem keysL_snoc (ss : List Span) (s : Span) : keysL (ss ++ [s]) = keysL ss ++ inner s 2 := by
  simp [keysL, inner]
def sp_keys (K : PySem.W.Frag) : Sp := fun vs H Q _ => ∃ (l : Addr) (ss : List (Addr × Span)), vs = [.ref l] ∧ SqL K H l (ss.map fun q => V.ref q.1) ∧ (∀ q ∈ ss, SqT K H q.1 (spV q.2)) ∧ ss.length ≤ 3 ∧
  ∀ p H', Same H H' → H p = none → H' p = some (.lst ((keysL (ss.map (·.2))).map V.int)) → Q (.ref p) H'
/-- the pair of a word and a value, told of a raise -/
def Told (H : Hp) (Q : VK) (w : Str) (v : V) : Prop := ∀ p H', Same H H' → H p = none → H' p = some (.lst [.str w, v]) → Q (.ref p) H'
def sp_told (K : PySem.W.Frag) : Sp := fun vs H Q _ => ∃ (n : Int) (x y : V) (o o2 : Option PyData), vs = [.int n, x, y] ∧ VD K H x o ∧ VD K H y o2 ∧
  ((spanO o = false ∧ Told H Q "span" x) ∨ (spanO o = true ∧ n ≠ 0 ∧ spanO o2 = false ∧ Told H Q "span" y) ∨ (spanO o = true ∧ n = 0 ∧ intO o2 = false ∧ Told H Q "key" y))
theorem inS_com (s t : Span) (k : Int) : inS (comS s t) k = (inS s k && inS t k) := by
  obtain ⟨a, b⟩ := s
  obtain ⟨c, d⟩ := t
  have h1 : loB (maxO a c) k = (loB a k && loB c k) := by
    cases a <;> cases c <;> simp only [maxO, loB, Bool.true_and, Bool.and_true, Bool.and_self]
    rw [← Bool.decide_and]
    congr 1
    exact propext ⟨fun h => ⟨by omega, by omega⟩, fun h => by omega⟩
  have h2 : hiB (minO b d) k = (hiB b k && hiB d k) := by
    cases b <;> cases d <;> simp only [minO, hiB, Bool.true_and, Bool.and_true, Bool.and_self]
    rw [← Bool.decide_and]
    congr 1
    exact propext ⟨fun h => ⟨by omega, by omega⟩, fun h => by omega⟩
  show (loB (maxO a c) k && hiB (minO b d) k) = _
  rw [h1, h2]
  show _ = ((loB a k && hiB b k) && (loB c k && hiB d k))
  cases loB a k <;> cases loB c k <;> cases hiB b k <;> cases hiB d k <;> rfl
theorem comS_comm (s t : Span) : comS t s = comS s t := by
  obtain ⟨a, b⟩ := s
  obtain ⟨c, d⟩ := t
  have h1 : maxO c a = maxO a c := by
    cases a <;> cases c <;> simp only [maxO]
    congr 1
    omega
  have h2 : minO d b = minO b d := by
    cases b <;> cases d <;> simp only [minO]
    congr 1
    omega
  show (maxO c a, minO d b) = (maxO a c, minO b d)
  rw [h1, h2]
theorem in_ok {s : Span} {k : Int} (h : inS s k = true) : okS s = true := by
  obtain ⟨a, b⟩ := s
  cases a with
  | none => rfl
  | some a =>
    cases b with
    | none => rfl
    | some b =>
      have h' : (decide (a ≤ k) && decide (k < b)) = true := h
      rw [Bool.and_eq_true, decide_eq_true_iff, decide_eq_true_iff] at h'
      exact decide_eq_true (by omega)
theorem lim_mem (ss : List Span) {s : Span} (hs : s ∈ ss) {m : Int} (h : m ∈ lim3 s.1 ∨ m ∈ lim3 s.2) : m ∈ keysL ss := by
  refine List.mem_cons_of_mem _ (List.mem_flatMap.mpr ⟨s, hs, ?_⟩)
  rcases h with h | h
  · exact List.mem_append_left _ h
  · exact List.mem_append_right _ h
theorem max_one (a b : Option Int) {m : Int} (h : maxO a b = some m) : a = some m ∨ b = some m := by
  cases a with
  | none => exact .inr h
  | some x =>
    cases b with
    | none => exact .inl h
    | some y =>
      have h' : max x y = m := Option.some.inj h
      by_cases c : x ≤ y
      · exact .inr (by rw [← h']; congr 1; omega)
      · exact .inl (by rw [← h']; congr 1; omega)
theorem min_one (a b : Option Int) {m : Int} (h : minO a b = some m) : a = some m ∨ b = some m := by
  cases a with
  | none => exact .inr h
  | some x =>
    cases b with
    | none => exact .inl h
    | some y =>
      have h' : min x y = m := Option.some.inj h
      by_cases c : x ≤ y
      · exact .inl (by rw [← h']; congr 1; omega)
      · exact .inr (by rw [← h']; congr 1; omega)
/-- a span that has keys has one of the looked-at ones -/
theorem key_in (s t : Span) (h : okS (comS s t) = true) : ∃ k ∈ keysL [s, t], inS (comS s t) k = true := by
  cases e1 : maxO s.1 t.1 with
  | some m =>
    refine ⟨m, ?_, ?_⟩
    · rcases max_one _ _ e1 with e | e
      · exact lim_mem _ List.mem_cons_self (.inl (by rw [e]; simp [lim3]))
      · exact lim_mem _ (List.mem_cons_of_mem _ List.mem_cons_self) (.inl (by rw [e]; simp [lim3]))
    · have h' : okS (maxO s.1 t.1, minO s.2 t.2) = true := h
      show (loB (maxO s.1 t.1) m && hiB (minO s.2 t.2) m) = true
      rw [e1] at h' ⊢
      cases e2 : minO s.2 t.2 with
      | none => simp [loB, hiB]
      | some u =>
        rw [e2] at h'
        have h2 : m < u := of_decide_eq_true h'
        simp [loB, hiB, h2]
  | none =>
    cases e2 : minO s.2 t.2 with
    | none =>
      refine ⟨0, List.mem_cons_self, ?_⟩
      show (loB (maxO s.1 t.1) 0 && hiB (minO s.2 t.2) 0) = true
      rw [e1, e2]
      rfl
    | some u =>
      refine ⟨u - 1, ?_, ?_⟩
      · rcases min_one _ _ e2 with e | e
        · exact lim_mem _ List.mem_cons_self (.inr (by rw [e]; simp [lim3]))
        · exact lim_mem _ (List.mem_cons_of_mem _ List.mem_cons_self) (.inr (by rw [e]; simp [lim3]))
      · show (loB (maxO s.1 t.1) (u - 1) && hiB (minO s.2 t.2) (u - 1)) = true
        rw [e1, e2]
        show (true && decide (u - 1 < u)) = true
        simp
        omega
def bothL (s t : Span) : List Int := (keysL [s, t]).filter fun k => inS s k && inS t k
theorem both_ok (s t : Span) : (bothL s t).isEmpty = !okS (comS s t) := by
  cases e : okS (comS s t) with
  | true =>
    obtain ⟨k, hk, hi⟩ := key_in s t e
    rw [inS_com] at hi
    have : k ∈ bothL s t := List.mem_filter.mpr ⟨hk, hi⟩
    cases eb : bothL s t with
    | nil => rw [eb] at this; cases this
    | cons a r => rfl
  | false =>
    cases eb : bothL s t with
    | nil => rfl
    | cons a r =>
      have : a ∈ bothL s t := by rw [eb]; exact List.mem_cons_self
      have h := (List.mem_filter.mp this).2
      rw [← inS_com] at h
      rw [in_ok h] at e
      cases e
/-- the limits that are there -/
def limsV (s t : Span) : List V := (spV s ++ spV t).filter fun v => !decide (v = .non)
theorem limsV_flat (s t : Span) : (limsV s t).all flatV = true := by
  obtain ⟨a, b⟩ := s
  obtain ⟨c, d⟩ := t
  cases a <;> cases b <;> cases c <;> cases d <;> rfl
theorem limsV_mem {s t : Span} {n : Int} (h : s.1 = some n ∨ t.1 = some n ∨ s.2 = some n ∨ t.2 = some n) : inV (V.int n) (limsV s t) = true := by
  have hm : V.int n ∈ limsV s t := by
    refine List.mem_filter.mpr ⟨?_, rfl⟩
    rcases h with h | h | h | h
    all_goals
      unfold spV
      rw [h]
      simp [limV]
  show (limsV s t).any (fun y => eqV y (V.int n)) = true
  refine List.any_eq_true.mpr ⟨_, hm, ?_⟩
  simp [eqV]
theorem com_lim {s t : Span} {i : Nat} {z : V} (h : (spV (comS s t))[i]? = some z) : ∃ o, z = limV o ∧ ∀ n, o = some n → inV (V.int n) (limsV s t) = true := by
  match i, h with
  | 0, h =>
    cases h
    refine ⟨maxO s.1 t.1, rfl, fun n e => ?_⟩
    rcases max_one _ _ e with q | q
    · exact limsV_mem (.inl q)
    · exact limsV_mem (.inr (.inl q))
  | 1, h =>
    cases h
    refine ⟨minO s.2 t.2, rfl, fun n e => ?_⟩
    rcases min_one _ _ e with q | q
    · exact limsV_mem (.inr (.inr (.inl q)))
    · exact limsV_mem (.inr (.inr (.inr q)))
theorem spD_inj {s t : Span} (h : spD s = spD t) : s = t := by
  obtain ⟨a, b⟩ := s
  obtain ⟨c, d⟩ := t
  have h' : PyData.tuple [limD a, limD b] = PyData.tuple [limD c, limD d] := h
  injection h' with h1
  injection h1 with h2 h3
  injection h3 with h4 _
  rw [limD_inj h2, limD_inj h4]
theorem eqv_sp (s : Span) : PyData.eqv (spD s) (spD s) = true := by
  refine SeqAt.eqv_refl _ ?_
  exact (shaped_iff.mp (shaped_sp s)).1
theorem dpAll_ints {K : PySem.W.Frag} {H : Hp} : ∀ ns : List Int, DpAll K H (ns.map V.int) (ns.map PyData.int)
  | [] => .nil
  | n :: r => .cons (.int n) (dpAll_ints r)
theorem sure2 {w : Str} {v : V} (h : sureV v = true) : ([.str w, v] : List V).all sureV = true := by
  show (sureV (.str w) && (sureV v && true)) = true
  rw [h]
  rfl
def sp_same (K : PySem.W.Frag) : Sp := fun vs H Q _ => ∃ (c p q : Addr) (s t : Span), vs = [.ref c, .ref p, .ref q] ∧ SqT K H c (spV (comS s t)) ∧ SqT K H p (spV s) ∧ SqT K H q (spV t) ∧ ∀ H', Same H H' → Q (.bl true) H'
def sp_right (K : PySem.W.Frag) : Sp := fun vs H Q _ => ∃ (p q : Addr) (s t : Span), vs = [.ref p, .ref q] ∧ SqT K H p (spV s) ∧ SqT K H q (spV t) ∧ okS s = true ∧ okS t = true ∧ ∀ H', Same H H' → Q (.bl true) H'
def kwg_common_0_other_one {α : Type} : List α → List α → List α
  | [], [w0, w1] => [w1, w0]
  | _, _ => []
def kwg_in_span_0_key_span {α : Type} : List α → List α → List α
  | [], [w0, w1] => [w1, w0]
  | _, _ => []
/-- what the top has written -/
structure Txt (K : PySem.W.Frag) (mg : Str → Option Value) where
  f_InvalidKey_init : Addr
  fd_InvalidKey_init : FuncData
  F_InvalidKey_init : Fun K "__init__" "InvalidKey.__init__" s_InvalidKey_init f_InvalidKey_init fd_InvalidKey_init
  b_InvalidKey_init : Binds K fd_InvalidKey_init ["self", "value"] []
  f_InvalidSpan_init : Addr
  fd_InvalidSpan_init : FuncData
  F_InvalidSpan_init : Fun K "__init__" "InvalidSpan.__init__" s_InvalidSpan_init f_InvalidSpan_init fd_InvalidSpan_init
  b_InvalidSpan_init : Binds K fd_InvalidSpan_init ["self", "value"] []
  f_is_integer : Addr
  fd_is_integer : FuncData
  F_is_integer : Fun K "is_integer" "is_integer" s_is_integer f_is_integer fd_is_integer
  b_is_integer : Binds K fd_is_integer ["value"] []
  m_is_integer : mg "is_integer" = some (.ref f_is_integer)
  f_is_span : Addr
  fd_is_span : FuncData
  F_is_span : Fun K "is_span" "is_span" s_is_span f_is_span fd_is_span
  b_is_span : Binds K fd_is_span ["value"] []
  m_is_span : mg "is_span" = some (.ref f_is_span)
  f_is_limit : Addr
  fd_is_limit : FuncData
  F_is_limit : Fun K "is_limit" "is_limit" s_is_limit f_is_limit fd_is_limit
  b_is_limit : Binds K fd_is_limit ["value"] []
  m_is_limit : mg "is_limit" = some (.ref f_is_limit)
  f_require_span : Addr
  fd_require_span : FuncData
  F_require_span : Fun K "require_span" "require_span" s_require_span f_require_span fd_require_span
  b_require_span : Binds K fd_require_span ["value"] []
  m_require_span : mg "require_span" = some (.ref f_require_span)
  f_require_key : Addr
  fd_require_key : FuncData
  F_require_key : Fun K "require_key" "require_key" s_require_key f_require_key fd_require_key
  b_require_key : Binds K fd_require_key ["value"] []
  m_require_key : mg "require_key" = some (.ref f_require_key)
  f_in_span : Addr
  fd_in_span : FuncData
  F_in_span : Fun K "in_span" "in_span" s_in_span f_in_span fd_in_span
  b_in_span : Binds K fd_in_span ["span", "key"] []
  m_in_span : mg "in_span" = some (.ref f_in_span)
  f_meet : Addr
  fd_meet : FuncData
  F_meet : Fun K "meet" "meet" s_meet f_meet fd_meet
  b_meet : Binds K fd_meet ["one", "other"] []
  m_meet : mg "meet" = some (.ref f_meet)
  f_common : Addr
  fd_common : FuncData
  F_common : Fun K "common" "common" s_common f_common fd_common
  b_common : Binds K fd_common ["one", "other"] []
  m_common : mg "common" = some (.ref f_common)
  f_law_cell : Addr
  fd_law_cell : FuncData
  F_law_cell : Fun K "_law_cell" "_law_cell" s_law_cell f_law_cell fd_law_cell
  b_law_cell : Binds K fd_law_cell ["_law_script", "_law_k"] []
  m_law_cell : mg "_law_cell" = some (.ref f_law_cell)
  f_law_box : Addr
  fd_law_box : FuncData
  F_law_box : Fun K "_law_box" "_law_box" s_law_box f_law_box fd_law_box
  b_law_box : Binds K fd_law_box ["_law_cell_here"] []
  m_law_box : mg "_law_box" = some (.ref f_law_box)
  f_law_take : Addr
  fd_law_take : FuncData
  F_law_take : Fun K "_law_take" "_law_take" s_law_take f_law_take fd_law_take
  b_law_take : Binds K fd_law_take ["_law_box_here", "_law_many"] []
  m_law_take : mg "_law_take" = some (.ref f_law_take)
  f_law_has : Addr
  fd_law_has : FuncData
  F_law_has : Fun K "_law_has" "_law_has" s_law_has f_law_has fd_law_has
  b_law_has : Binds K fd_law_has ["_law_piece", "_law_place"] []
  m_law_has : mg "_law_has" = some (.ref f_law_has)
  f_law_span : Addr
  fd_law_span : FuncData
  F_law_span : Fun K "_law_span" "_law_span" s_law_span f_law_span fd_law_span
  b_law_span : Binds K fd_law_span ["_law_box_here"] []
  m_law_span : mg "_law_span" = some (.ref f_law_span)
  f_law_keys : Addr
  fd_law_keys : FuncData
  F_law_keys : Fun K "_law_keys" "_law_keys" s_law_keys f_law_keys fd_law_keys
  b_law_keys : Binds K fd_law_keys ["_law_spans"] []
  m_law_keys : mg "_law_keys" = some (.ref f_law_keys)
  f_law_told : Addr
  fd_law_told : FuncData
  F_law_told : Fun K "_law_told" "_law_told" s_law_told f_law_told fd_law_told
  b_law_told : Binds K fd_law_told ["_law_way", "_law_first", "_law_second"] []
  m_law_told : mg "_law_told" = some (.ref f_law_told)
  f_law_right : Addr
  fd_law_right : FuncData
  F_law_right : Fun K "_law_right" "_law_right" s_law_right f_law_right fd_law_right
  b_law_right : Binds K fd_law_right ["_law_first", "_law_second"] []
  m_law_right : mg "_law_right" = some (.ref f_law_right)
  f_law_same : Addr
  fd_law_same : FuncData
  F_law_same : Fun K "_law_same" "_law_same" s_law_same f_law_same fd_law_same
  b_law_same : Binds K fd_law_same ["_law_told_here", "_law_first", "_law_second"] []
  m_law_same : mg "_law_same" = some (.ref f_law_same)
  f_law : Addr
  fd_law : FuncData
  F_law : Fun K "law" "law" s_law f_law fd_law
  b_law : Binds K fd_law ["_law_script"] []
  m_law : mg "law" = some (.ref f_law)
  k_common_0_other_one : KwB K fd_common ["one", "other"] 0 ["other", "one"] kwg_common_0_other_one
  k_in_span_0_key_span : KwB K fd_in_span ["span", "key"] 0 ["key", "span"] kwg_in_span_0_key_span
  C_PartsError : Addr
  g_PartsError : mg "PartsError" = some (.ref C_PartsError)
  C_InvalidKey : Addr
  g_InvalidKey : mg "InvalidKey" = some (.ref C_InvalidKey)
  x_InvalidKey : OexC K C_InvalidKey
  y_InvalidKey : XfC K C_InvalidKey
  n_InvalidKey : PySem.W.findIn K (.ref C_InvalidKey) "value" = some none
  i_InvalidKey : PySem.W.findIn K (.ref C_InvalidKey) "__init__" = some (some (.ref f_InvalidKey_init))
  t_InvalidKey : PySem.W.typeIn K (.ref f_InvalidKey_init) = some (.type "function")
  C_InvalidSpan : Addr
  g_InvalidSpan : mg "InvalidSpan" = some (.ref C_InvalidSpan)
  x_InvalidSpan : OexC K C_InvalidSpan
  y_InvalidSpan : XfC K C_InvalidSpan
  n_InvalidSpan : PySem.W.findIn K (.ref C_InvalidSpan) "value" = some none
  i_InvalidSpan : PySem.W.findIn K (.ref C_InvalidSpan) "__init__" = some (some (.ref f_InvalidSpan_init))
  t_InvalidSpan : PySem.W.typeIn K (.ref f_InvalidSpan_init) = some (.type "function")
  e_InvalidSpan_InvalidSpan : PySem.W.exmOne K (.ref C_InvalidSpan) (.ref C_InvalidSpan) = some true
  e_InvalidKey_InvalidSpan : PySem.W.exmOne K (.ref C_InvalidKey) (.ref C_InvalidSpan) = some false
  e_InvalidKey_InvalidKey : PySem.W.exmOne K (.ref C_InvalidKey) (.ref C_InvalidKey) = some true
  z_isinstance : mg "isinstance" = none
  z_int : mg "int" = none
  z_bool : mg "bool" = none
  z_tuple : mg "tuple" = none
  z_len : mg "len" = none
  z_max : mg "max" = none
  z_min : mg "min" = none
  z_range : mg "range" = none

section
variable {P : Program} {w : World} {K : PySem.W.Frag} {mg : Str → Option Value} {base : Heap}
theorem ok_law_cell (T : Txt K mg) : FnOk P w K mg base CX0 1 T.f_law_cell T.fd_law_cell ["_law_script", "_law_k"] (sp_law_cell K) := by
  refine T.F_law_cell.ok sc_law_cell (fun vs H Q E h => ?_) (fun cdv A outer s H vs Q E hr h => ?_)
  · obtain ⟨a, ns, k, rfl, _⟩ := h
    rfl
  · obtain ⟨a, ns, k, rfl, hS, hk, kq⟩ := h
    refine ⟨_, (pss_cons (ps_if (pt_cmpR op_lt (pv 1) (pe_callB (id := "len") call_len_seq (by rfl) T.z_len (by decide +kernel) (pa_cons (pv 0) pa_nil)) (nomark _)) (pss_one (ps_ret (pe_ix ix_list (pv 0) (pv 1) (fun _ _ => rfl)))) pss_nil)
        (pss_one (ps_ret (pe_op op_add (pe_op op_mul pe_int (pv 1)) pe_int)))), ?_⟩
    refine ⟨_, rfl, _, rfl, a, _, rfl, .inl hS, _, _, rfl, rfl, _, rfl, ?_⟩
    refine ite2 (fun c => ?_) (fun c => ?_)
    · have c' := of_decide_eq_true c
      rw [List.length_map] at c'
      obtain ⟨j, rfl⟩ := Int.eq_ofNat_of_zero_le hk
      have hj : j < ns.length := by omega
      refine ⟨_, rfl, _, rfl, a, _, _, .int ns[j], rfl, rfl, hS, atI_nat (by rw [List.getElem?_map, List.getElem?_eq_getElem hj]; rfl), kq _⟩
    · refine ⟨_, rfl, _, _, rfl, rfl, .inl ⟨by decide, by decide⟩, _, _, rfl, rfl, kq _⟩
theorem ok_law_box (T : Txt K mg) : FnOk P w K mg base CX0 1 T.f_law_box T.fd_law_box ["_law_cell_here"] sp_law_box := by
  refine T.F_law_box.ok sc_law_box (fun vs H Q E h => ?_) (fun cdv A outer s H vs Q E hr h => ?_)
  · obtain ⟨z, rfl, _⟩ := h
    rfl
  · obtain ⟨z, rfl, k⟩ := h
    refine ⟨_, (pss_one (ps_ret (pe_lst (pa_cons (pe_callB (id := "max") (call_max2 rfl) (by rfl) T.z_max (by decide +kernel) (pa_cons pe_int (pa_cons (pe_op op_sub (pv 0) (pe_op op_pow pe_int pe_int)) pa_nil))) (pa_cons (pe_op op_mod (pv 0) pe_int) (pa_cons pe_int pa_nil)))))), ?_⟩
    refine ⟨_, rfl, _, _, rfl, rfl, ⟨by decide, by decide, by decide⟩, _, _, rfl, rfl, _, _, rfl, ?_⟩
    refine ⟨_, rfl, _, _, rfl, rfl, (by show (0 : Int) < 2147483629; decide), (by show 3 ≤ sizeLine; decide), fun p hp => ?_⟩
    refine k p _ hp ⟨_, _, _, upd_same, ?_, Int.emod_nonneg _ (by decide), Int.emod_lt_of_pos _ (by decide), by decide, by decide⟩
    by_cases c : z - 10 ^ (18 : Int).toNat > 0
    · rw [if_pos c]
      omega
    · rw [if_neg c]
      exact Int.le_refl _
theorem ok_law_take (T : Txt K mg) : FnOk P w K mg base CX0 1 T.f_law_take T.fd_law_take ["_law_box_here", "_law_many"] sp_law_take := by
  refine T.F_law_take.ok sc_law_take (fun vs H Q E h => ?_) (fun cdv A outer s H vs Q E hr h => ?_)
  · obtain ⟨H0, p, n, m, rfl, _⟩ := h
    rfl
  · obtain ⟨H0, p, n, m, rfl, B, hn, hm, hm2, k⟩ := h
    obtain ⟨d, s, c, hp, hd, hs, hs2, hc, hc2⟩ := B.box
    have hL : SqL K H p [.int d, .int s, .int c] := SqL.of hp
    have nx : ∀ (d' c' : Int), 0 ≤ d' → 0 ≤ c' → c' ≤ c + 1 → BoxIn H0 (upd H p (.lst [.int d', .int s, .int c'])) p (n + 1) := fun d' c' h1 h2 h3 =>
      ⟨fun x u e => by rw [upd_ne (ne_of_none e B.free)]; exact B.same _ _ e, B.free, d', s, c', upd_same, h1, hs, hs2, h2, by omega⟩
    refine ⟨_, (pss_cons (ps_if (pt_cmpR op_gt (pe_ix ix_list (pv 0) pe_int (fun _ _ => rfl)) pe_int (nomark _)) (pss_cons (ps_set (i := 2) sc_law_take.nd rfl (Or.inl rfl) (pe_op op_mod (pe_ix ix_list (pv 0) pe_int (fun _ _ => rfl)) (pv 1)))
        (pss_cons (ps_asg (pe_op op_fdiv (pe_ix ix_list (pv 0) pe_int (fun _ _ => rfl)) (pv 1)) (pg_sub (pv 0) pe_int set_list))
        (pss_one (ps_ret (pv 2))))) pss_nil)
        (pss_cons (ps_asg (pe_op op_add (pe_ix ix_list (pv 0) pe_int (fun _ _ => rfl)) pe_int) (pg_sub (pv 0) pe_int set_list))
        (pss_cons (ps_set (i := 3) sc_law_take.nd rfl (Or.inl rfl) (pe_op op_mod (pe_op op_pow (pe_op op_add (pe_op op_add (pe_ix ix_list (pv 0) pe_int (fun _ _ => rfl)) (pe_op op_mul pe_int (pe_ix ix_list (pv 0) pe_int (fun _ _ => rfl)))) pe_int) pe_int) pe_int))
        (pss_cons (ps_set (i := 3) sc_law_take.nd rfl (Or.inl rfl) (pe_op op_mod (pe_op op_pow (pe_op op_add (pv 3) (pe_op op_mul pe_int (pe_ix ix_list (pv 0) pe_int (fun _ _ => rfl)))) pe_int) pe_int))
        (pss_one (ps_ret (pe_op op_mod (pe_op op_fdiv (pv 3) pe_int) (pv 1)))))))), ?_⟩
    refine ⟨_, rfl, p, _, _, _, rfl, rfl, hL, atI_nat (j := 0) rfl, _, _, rfl, rfl, _, rfl, ?_⟩
    refine ite2 (fun c0 => ?_) (fun c0 => ?_)
    · have c0' := of_decide_eq_true c0
      refine ⟨_, rfl, p, _, _, _, rfl, rfl, hL, atI_nat (j := 0) rfl, _, rfl, _, _, rfl, rfl, hm, ?_⟩
      refine ⟨_, rfl, p, _, _, _, rfl, rfl, hL, atI_nat (j := 0) rfl, _, rfl, _, _, rfl, rfl, ⟨hm, by omega⟩, ?_⟩
      refine ⟨_, rfl, p, _, _, 0, rfl, rfl, hp, rfl, ?_⟩
      refine ⟨_, rfl, k _ _ (Int.emod_nonneg _ (by omega)) (Int.emod_lt_of_pos _ hm) (nx _ _ (Int.ediv_nonneg hd (by omega)) hc (by omega))⟩
    · refine ⟨_, rfl, p, _, _, _, rfl, rfl, hL, atI_nat (j := 2) rfl, _, _, rfl, rfl, ?_⟩
      refine ⟨_, rfl, p, _, _, 2, rfl, rfl, hp, rfl, ?_⟩
      have hL' : SqL K (upd H p (.lst [.int d, .int s, .int (c + 1)])) p [.int d, .int s, .int (c + 1)] := SqL.of upd_same
      refine ⟨_, rfl, p, _, _, _, rfl, rfl, hL', atI_nat (j := 1) rfl, _, rfl, p, _, _, _, rfl, rfl, hL', atI_nat (j := 2) rfl, _, _, rfl, rfl, .inl ⟨by decide, by decide⟩, _, _, rfl, rfl, _, _, rfl, rfl, _, _, rfl, rfl, ⟨by decide, by decide, by omega⟩, _, _, rfl, rfl, (by show (0 : Int) < 2147483647; decide), ?_⟩
      have h1 := Int.emod_nonneg ((s + 7919 * (c + 1) + 43) ^ (5 : Int).toNat) (show (2147483647 : Int) ≠ 0 by decide)
      have h2 := Int.emod_lt_of_pos ((s + 7919 * (c + 1) + 43) ^ (5 : Int).toNat) (show (0 : Int) < 2147483647 by decide)
      refine ⟨_, rfl, _, rfl, p, _, _, _, rfl, rfl, hL', atI_nat (j := 2) rfl, _, _, rfl, rfl, .inl ⟨by decide, by decide⟩, _, _, rfl, rfl, _, _, rfl, rfl, ⟨by decide, by decide, by omega⟩, _, _, rfl, rfl, (by show (0 : Int) < 2147483587; decide), ?_⟩
      refine ⟨_, rfl, _, _, rfl, rfl, ⟨by decide, by decide⟩, _, rfl, _, _, rfl, rfl, hm, ?_⟩
      exact k _ _ (Int.emod_nonneg _ (by omega)) (Int.emod_lt_of_pos _ hm) (nx _ _ hd (by omega) (by omega))
theorem ok_is_integer (T : Txt K mg) : FnOk P w K mg base CX0 1 T.f_is_integer T.fd_is_integer ["value"] (sp_vO K intO) := by
  refine T.F_is_integer.ok sc_is_integer (fun vs H Q E h => ?_) (fun cdv A outer s H vs Q E hr h => ?_)
  · obtain ⟨v, o, rfl, _⟩ := h
    rfl
  · obtain ⟨v, o, rfl, ty, _, k⟩ := h
    refine ⟨_, (pss_one (ps_ret (pe_and (pe_callB (id := "isinstance") call_isi (by rfl) T.z_isinstance (by decide +kernel) (pa_cons (pv 0) (pa_cons (pe_bltn (v := .ty "int") (u := .type "int") (by rfl) T.z_int (by decide +kernel) rfl) pa_nil))) (pe_one (pe_not (pe_callB (id := "isinstance") call_isi (by rfl) T.z_isinstance (by decide +kernel) (pa_cons (pv 0) (pa_cons (pe_bltn (v := .ty "bool") (u := .type "bool") (by rfl) T.z_bool (by decide +kernel) rfl) pa_nil)))))))), ?_⟩
    refine ⟨_, rfl, _, _, _, _, _, rfl, .ty _, ty, kit_o o (.inl rfl), _, rfl, ?_⟩
    unfold intO at k
    cases e : isT "int" o with
    | true =>
      rw [e] at k
      exact iteT ⟨_, rfl, _, _, _, _, _, rfl, .ty _, ty, kit_o o (.inr (.inl rfl)), _, rfl, k⟩
    | false =>
      rw [e] at k
      exact iteF k
theorem ok_is_limit (T : Txt K mg) : FnOk P w K mg base CX0 2 T.f_is_limit T.fd_is_limit ["value"] (sp_vO K limO) := by
  refine T.F_is_limit.ok sc_is_limit (fun vs H Q E h => ?_) (fun cdv A outer s H vs Q E hr h => ?_)
  · obtain ⟨v, o, rfl, _⟩ := h
    rfl
  · obtain ⟨v, o, rfl, ty, hn, k⟩ := h
    refine ⟨_, (pss_one (ps_ret (pe_or (pe_cmpR op_isN (pv 0) pe_non (nomark _)) (pe_one (pe_call (ok_is_integer T) hr rfl T.m_is_integer T.F_is_integer.kp T.b_is_integer .nil pass0 (pa_cons (pv 0) pa_nil)))))), ?_⟩
    refine ⟨_, rfl, rfl, _, rfl, ?_⟩
    unfold limO at k
    rw [hn]
    cases e : nonO o with
    | true =>
      rw [e] at k
      exact iteT k
    | false =>
      rw [e] at k
      exact iteF ⟨_, rfl, v, o, rfl, ty, hn, k⟩
theorem ok_is_span (T : Txt K mg) : FnOk P w K mg base CX0 3 T.f_is_span T.fd_is_span ["value"] (sp_v1 K spanO) := by
  refine T.F_is_span.ok sc_is_span (fun vs H Q E h => ?_) (fun cdv A outer s H vs Q E hr h => ?_)
  · obtain ⟨v, o, rfl, _⟩ := h
    rfl
  · obtain ⟨v, o, rfl, hv, k⟩ := h
    have ty := hv.ty
    have k := k H (Same.refl H)
    refine ⟨_, (pss_cons (ps_if (PW.pt (pw_or (pt_not (pt_val (pe_callB (id := "isinstance") call_isi (by rfl) T.z_isinstance (by decide +kernel) (pa_cons (pv 0) (pa_cons (pe_bltn (v := .ty "tuple") (u := .type "tuple") (by rfl) T.z_tuple (by decide +kernel) rfl) pa_nil))))) (pw_or1 (pt_cmpR op_ne (pe_callB (id := "len") call_len_seq (by rfl) T.z_len (by decide +kernel) (pa_cons (pv 0) pa_nil)) pe_int (nomark _))))) (pss_one (ps_ret pe_bl)) pss_nil)
        (pss_cons (ps_asg (pv 0) (pg_tup rfl (pgs_cons (pg_name (i := 1) sc_is_span.nd rfl (Or.inl rfl)) (pgs_cons (pg_name (i := 2) sc_is_span.nd rfl (Or.inl rfl)) pgs_nil))))
        (pss_cons (ps_if (PW.pt (pw_or (pt_not (pt_val (pe_call (ok_is_limit T) hr rfl T.m_is_limit T.F_is_limit.kp T.b_is_limit .nil pass0 (pa_cons (pv 1) pa_nil)))) (pw_or1 (pt_not (pt_val (pe_call (ok_is_limit T) hr rfl T.m_is_limit T.F_is_limit.kp T.b_is_limit .nil pass0 (pa_cons (pv 2) pa_nil))))))) (pss_one (ps_ret pe_bl)) pss_nil)
        (pss_one (ps_ret (pe_or (pe_cmpR op_isN (pv 1) pe_non (nomark _)) (pe_or (pe_cmpR op_isN (pv 2) pe_non (nomark _)) (pe_one (pe_cmpR op_lt (pv 1) (pv 2) (nomark _)))))))))), ?_⟩
    refine ⟨_, rfl, _, _, _, _, _, rfl, .ty _, ty, kit_o o (.inr (.inr (.inr rfl))), _, rfl, ?_⟩
    cases e : isT "tuple" o with
    | false =>
      have e2 : spanO o = false := by
        rcases o with _ | d
        · rfl
        · cases d with
          | tuple s => cases e
          | _ => rfl
      rw [e2] at k
      exact iteT (iteT k)
    | true =>
      obtain ⟨a, xs, ds, rfl, rfl, hT, hD⟩ : ∃ a xs ds, v = .ref a ∧ o = some (.tuple ds) ∧ SqT K H a xs ∧ DpAll K H xs ds := by
        cases hv with
        | dat a _ c =>
          cases a with
          | tup h1 h2 => exact ⟨_, _, _, rfl, rfl, h1, h2⟩
          | _ => cases e
        | dic a => cases e
      have hlen := dpAll_len hD
      refine iteF ⟨_, rfl, _, _, rfl, .inr hT, rfl, _, rfl, ?_⟩
      show (if (!decide (V.int (xs.length : Int) = V.int 2)) = true then _ else _)
      rw [dec_int]
      by_cases e2 : xs.length = 2
      · have e3 : (((xs.length : Nat) : Int) == 2) = true := by rw [e2]; rfl
        rw [e3]
        refine iteF ?_
        obtain ⟨x, y, d, d2, rfl, rfl, h1, h2⟩ := dp_two hD e2
        have t1 := dp_vO h1
        have t2 := dp_vO h2
        refine ⟨_, rfl, a, _, rfl, hT, rfl, _, _, rfl, _, _, rfl, rfl, ?_⟩
        have k : Q (.bl (limO (some d) && (limO (some d2) && ltO d d2))) H := k
        refine ⟨_, rfl, _, some d, rfl, t1.1, t1.2, _, rfl, ?_⟩
        cases l1 : limO (some d) with
        | false =>
          rw [l1] at k
          exact iteT (iteT k)
        | true =>
          rw [l1] at k
          refine iteF ⟨_, rfl, _, some d2, rfl, t2.1, t2.2, _, rfl, ?_⟩
          cases l2 : limO (some d2) with
          | false =>
            rw [l2] at k
            exact iteT k
          | true =>
            rw [l2] at k
            refine iteF ⟨_, rfl, rfl, _, rfl, ?_⟩
            have k : Q (.bl (ltO d d2)) H := k
            cases h1 with
            | non => exact iteT k
            | int i =>
              refine iteF ⟨_, rfl, rfl, _, rfl, ?_⟩
              cases h2 with
              | non => exact iteT k
              | int j => exact iteF ⟨_, rfl, _, rfl, _, _, rfl, rfl, k⟩
              | _ => cases l2
            | _ => cases l1
      · have e3 : (((xs.length : Nat) : Int) == 2) = false := by
          rw [beq_eq_false_iff_ne]
          omega
        rw [e3]
        have e4 : spanO (some (.tuple ds)) = false := spanO_no fun q => e2 (hlen.trans q)
        rw [e4] at k
        exact iteT k
theorem ok_InvalidSpan_init (T : Txt K mg) : FnOk P w K mg base CX0 1 T.f_InvalidSpan_init T.fd_InvalidSpan_init ["self", "value"] (sp_xinit K T.C_InvalidSpan "value") := by
  refine T.F_InvalidSpan_init.ok sc_InvalidSpan_init (fun vs H Q E h => ?_) (fun cdv A outer s H vs Q E hr h => ?_)
  · obtain ⟨a, v, rfl, _⟩ := h
    rfl
  · obtain ⟨a, v, rfl, x, n, ha, k⟩ := h
    refine ⟨_, (pss_one (ps_ost (pv 0) (pv 1))), ?_⟩
    exact ⟨_, rfl, _, rfl, a, T.C_InvalidSpan, rfl, x, n, .inl ⟨ha, k⟩⟩
theorem ok_require_span (T : Txt K mg) : FnOk P w K mg base (L2.CX P w) 4 T.f_require_span T.fd_require_span ["value"] (sp_req K spanO T.C_InvalidSpan "value") := by
  refine T.F_require_span.okX sc_require_span (fun vs H Q E h => ?_) (fun cdv A outer s H vs Q E hr h => ?_)
  · obtain ⟨v, o, rfl, _⟩ := h
    rfl
  · obtain ⟨v, o, rfl, hv, k1, k2⟩ := h
    refine ⟨_, (pss_one (ps_if (pt_not (pt_val (pe_call (ok_is_span T) hr rfl T.m_is_span T.F_is_span.kp T.b_is_span .nil pass0 (pa_cons (pv 0) pa_nil)))) (pss_one (ps_raise rfl (takes_of rfl rfl rfl rfl) (pmk_oex T.x_InvalidSpan T.i_InvalidSpan T.t_InvalidSpan (ok_InvalidSpan_init T) (hr.mono (by decide)) T.b_InvalidSpan_init .nil pass0 rfl T.g_InvalidSpan (pa_cons (pv 0) pa_nil)))) pss_nil)), ?_⟩
    refine ⟨_, rfl, v, o, rfl, hv, fun H1 s1 => ⟨_, rfl, ?_⟩⟩
    cases e : spanO o with
    | true => exact iteF (k1 e H1 s1)
    | false => exact iteT ⟨_, rfl, raise_x T.x_InvalidSpan T.n_InvalidSpan ((k2 e).back s1)⟩
theorem ok_common (T : Txt K mg) : FnOk P w K mg base (L2.CX P w) 5 T.f_common T.fd_common ["one", "other"] (sp_common K T.C_InvalidSpan) := by
  refine T.F_common.okX sc_common (fun vs H Q E h => ?_) (fun cdv A outer s H vs Q E hr h => ?_)
  · obtain ⟨x, y, o, o2, rfl, _⟩ := h
    rfl
  · obtain ⟨x, y, o, o2, rfl, hx, hy, k1, k2, k3⟩ := h
    refine ⟨_, (pss_cons (ps_expr (pe_call (ok_require_span T) hr rfl T.m_require_span T.F_require_span.kp T.b_require_span .nil (passC (takes_of rfl rfl rfl rfl)) (pa_cons (pv 0) pa_nil)))
        (pss_cons (ps_expr (pe_call (ok_require_span T) hr rfl T.m_require_span T.F_require_span.kp T.b_require_span .nil (passC (takes_of rfl rfl rfl rfl)) (pa_cons (pv 1) pa_nil)))
        (pss_cons (ps_setLc (i := 2) (own := [("low", 5)]) (g := gName 5) rfl sc_common.nd rfl rfl (sw_true rfl rfl rfl (by decide +kernel)) (pi_tup (pe_tup (pa_cons (pe_ix ix_tup (pv 0) pe_int (fun _ _ => rfl)) (pa_cons (pe_ix ix_tup (pv 1) pe_int (fun _ _ => rfl)) pa_nil)))) (blkOk_by (own := [("low", 5)]) (N := ["one", "other", "lows", "highs", "both", "low", "high"]) (sc := defScope s_common) (by decide +kernel)) (fun _ _ _ _ _ => (pg_name (i := 5) sc_common.nd rfl (Or.inl rfl))) (fun _ _ _ _ _ => (pts_one (pt_cmpR op_notN (pv 5) pe_non (nomark _)))) (fun _ _ _ _ _ => (pv 5)))
        (pss_cons (ps_setLc (i := 3) (own := [("high", 6)]) (g := gName 6) rfl sc_common.nd rfl rfl (sw_true rfl rfl rfl (by decide +kernel)) (pi_tup (pe_tup (pa_cons (pe_ix ix_tup (pv 0) pe_int (fun _ _ => rfl)) (pa_cons (pe_ix ix_tup (pv 1) pe_int (fun _ _ => rfl)) pa_nil)))) (blkOk_by (own := [("high", 6)]) (N := ["one", "other", "lows", "highs", "both", "low", "high"]) (sc := defScope s_common) (by decide +kernel)) (fun _ _ _ _ _ => (pg_name (i := 6) sc_common.nd rfl (Or.inl rfl))) (fun _ _ _ _ _ => (pts_one (pt_cmpR op_notN (pv 6) pe_non (nomark _)))) (fun _ _ _ _ _ => (pv 6)))
        (pss_cons (ps_set (i := 4) sc_common.nd rfl (Or.inl rfl) (pe_tup (pa_cons (pe_callBK (id := "max") (ks := ["default"]) (cr_maxD rfl hr.units) (by rfl) T.z_max (by decide +kernel) (pa_cons (pv 2) pa_nil) (pk_cons pe_non pk_nil)) (pa_cons (pe_callBK (id := "min") (ks := ["default"]) (cr_minD rfl hr.units) (by rfl) T.z_min (by decide +kernel) (pa_cons (pv 3) pa_nil) (pk_cons pe_non pk_nil)) pa_nil))))
        (pss_one (ps_ret (pe_ifExp (pt_val (pe_call (ok_is_span T) (hr.mono (by decide)) rfl T.m_is_span T.F_is_span.kp T.b_is_span .nil pass0 (pa_cons (pv 4) pa_nil))) (pv 4) pe_non)))))))), ?_⟩
    refine ⟨_, rfl, x, o, rfl, hx, fun e1 H1 s1 => ?_, fun e => k1 e⟩
    refine ⟨_, rfl, y, o2, rfl, hy.mono s1, fun e2 H2 s2 => ?_, fun e => (k2 e1 e).back s1⟩
    obtain ⟨s', rfl, os⟩ := spanO_of e1
    obtain ⟨t, rfl, ot⟩ := spanO_of e2
    obtain ⟨kT, kF⟩ := k3 s' t rfl os rfl ot
    obtain ⟨a, rfl, ha⟩ := hx.sp
    obtain ⟨b, rfl, hb⟩ := hy.sp
    have s12 := s1.trans s2
    have ha2 := same_t s12 ha
    have hb2 := same_t s12 hb
    refine ⟨_, rfl, a, _, 0, limV s'.1, rfl, rfl, ha2, atI_nat (j := 0) rfl, _, rfl, b, _, 0, limV t.1, rfl, rfl, hb2, atI_nat (j := 0) rfl, (by show 2 ≤ sizeLine; decide), fun q hq => ?_⟩
    refine ⟨q, rfl, ⟨_, SqT.of upd_same⟩, fun D hD => ?_⟩
    have s3 := same_new (o := .tup [limV s'.1, limV t.1]) hq
    refine lc_acc walk_tup hD (fun H' k => SqT.of (k _ _ upd_same)) (fun i => ([limV s'.1, limV t.1].take i).filter fun v => !decide (v = .non)) rfl (fun i _ => Nat.lt_of_le_of_lt (List.length_filter_le _ _) (Nat.lt_of_le_of_lt (by rw [List.length_take]; exact Nat.min_le_right _ _) (by show 2 < sizeLine; decide))) ?_ ?_
    · rintro i z H3 hi hz k R S r1 r2
      refine ⟨rfl, _, rfl, rfl, _, rfl, ?_⟩
      have hz' : [limV s'.1, limV t.1][i]? = some z := hz
      cases e : decide (z = V.non) with
      | true => exact iteF (r2 _ (by rw [List.take_add_one, hz']; simp [e]) (Same.refl _))
      | false => exact iteT ⟨_, rfl, r1 _ _ (by rw [List.take_add_one, hz']; simp [e]) (Same.refl _)⟩
    intro H3 s4 hl
    have s123 := s12.trans (s3.trans s4)
    have el : (([limV s'.1, limV t.1].take 2).filter fun v => !decide (v = .non)) = (lowsL s'.1 t.1).map V.int := by
      cases s'.1 <;> cases t.1 <;> rfl
    have hl : H3 D = some (.lst ((lowsL s'.1 t.1).map V.int)) := by
      rw [← el]
      exact hl
    have ha3 := same_t (s3.trans s4) ha2
    have hb3 := same_t (s3.trans s4) hb2
    refine ⟨_, rfl, a, _, 1, limV s'.2, rfl, rfl, ha3, atI_nat (j := 1) rfl, _, rfl, b, _, 1, limV t.2, rfl, rfl, hb3, atI_nat (j := 1) rfl, (by show 2 ≤ sizeLine; decide), fun q2 hq2 => ?_⟩
    refine ⟨q2, rfl, ⟨_, SqT.of upd_same⟩, fun D2 hD2 => ?_⟩
    have s5 := same_new (o := .tup [limV s'.2, limV t.2]) hq2
    refine lc_acc walk_tup hD2 (fun H' k => SqT.of (k _ _ upd_same)) (fun i => ([limV s'.2, limV t.2].take i).filter fun v => !decide (v = .non)) rfl (fun i _ => Nat.lt_of_le_of_lt (List.length_filter_le _ _) (Nat.lt_of_le_of_lt (by rw [List.length_take]; exact Nat.min_le_right _ _) (by show 2 < sizeLine; decide))) ?_ ?_
    · rintro i z H4 hi hz k R S r1 r2
      refine ⟨rfl, _, rfl, rfl, _, rfl, ?_⟩
      have hz' : [limV s'.2, limV t.2][i]? = some z := hz
      cases e : decide (z = V.non) with
      | true => exact iteF (r2 _ (by rw [List.take_add_one, hz']; simp [e]) (Same.refl _))
      | false => exact iteT ⟨_, rfl, r1 _ _ (by rw [List.take_add_one, hz']; simp [e]) (Same.refl _)⟩
    intro H4 s6 hl2
    have el2 : (([limV s'.2, limV t.2].take 2).filter fun v => !decide (v = .non)) = (lowsL s'.2 t.2).map V.int := by
      cases s'.2 <;> cases t.2 <;> rfl
    have hl2 : H4 D2 = some (.lst ((lowsL s'.2 t.2).map V.int)) := by
      rw [← el2]
      exact hl2
    have s56 := s5.trans s6
    have hl4 := s56 _ _ hl
    have s1234 := s123.trans s56
    -- both = (max(..), min(..)), then what follows
    have fin : ∀ v1 v2, v1 = limV (comS s' t).1 → v2 = limV (comS s' t).2 → ∀ H5 p, H4 p = none → H5 = upd H4 p (.tup [v1, v2]) → VD K H5 (.ref p) (some (spD (comS s' t))) ∧ Same H H5 ∧ H5 p = some (.tup (spV (comS s' t))) ∧ H p = none := by
      rintro v1 v2 rfl rfl H5 p hp rfl
      exact ⟨vd_sp (SqT.of upd_same), s1234.trans (same_new hp), upd_same, s1234.free hp⟩
    refine ⟨_, rfl, D, _, .non, rfl, rfl, SqL.of hl4, fun e => ?_, fun m hm hle => ?_⟩
    all_goals
      refine ⟨_, rfl, D2, _, .non, rfl, rfl, SqL.of hl2, fun e' => ?_, fun m' hm' hle' => ?_⟩
      all_goals
        refine ⟨(by show 2 ≤ sizeLine; decide), fun p hp => ?_⟩
        obtain ⟨hv, s7, hp5, hp0⟩ := fin _ _ (by first | exact max_none e | exact max_some hm hle) (by first | exact min_none e' | exact min_some hm' hle') _ p hp rfl
        refine ⟨_, rfl, _, _, rfl, hv, fun H6 s8 => ⟨_, rfl, ?_⟩⟩
        rw [spanO_ok]
        cases ec : okS (comS s' t) with
        | true => exact iteT ⟨_, rfl, kT ec p H6 (s7.trans s8) hp0 (s8 _ _ hp5)⟩
        | false => exact iteF (kF ec H6 (s7.trans s8))
theorem ok_meet (T : Txt K mg) : FnOk P w K mg base (L2.CX P w) 6 T.f_meet T.fd_meet ["one", "other"] (sp_meet K T.C_InvalidSpan) := by
  refine T.F_meet.okX sc_meet (fun vs H Q E h => ?_) (fun cdv A outer s H vs Q E hr h => ?_)
  · obtain ⟨x, y, o, o2, rfl, _⟩ := h
    rfl
  · obtain ⟨x, y, o, o2, rfl, hx, hy, k1, k2, k3⟩ := h
    refine ⟨_, (pss_one (ps_ret (pe_cmpR op_notN (pe_call (ok_common T) hr rfl T.m_common T.F_common.kp T.b_common .nil (passC (takes_of rfl rfl rfl rfl)) (pa_cons (pv 0) (pa_cons (pv 1) pa_nil))) pe_non (nomark _)))), ?_⟩
    refine ⟨_, rfl, _, rfl, x, y, o, o2, rfl, hx, hy, k1, k2, fun s' t e1 os e2 ot => ⟨fun ec p H' k hp hpp => ⟨rfl, ?_⟩, fun ec H' k => ⟨rfl, ?_⟩⟩⟩
    · have := k3 s' t e1 os e2 ot H' k
      rw [ec] at this
      exact this
    · have := k3 s' t e1 os e2 ot H' k
      rw [ec] at this
      exact this
theorem ok_InvalidKey_init (T : Txt K mg) : FnOk P w K mg base CX0 1 T.f_InvalidKey_init T.fd_InvalidKey_init ["self", "value"] (sp_xinit K T.C_InvalidKey "value") := by
  refine T.F_InvalidKey_init.ok sc_InvalidKey_init (fun vs H Q E h => ?_) (fun cdv A outer s H vs Q E hr h => ?_)
  · obtain ⟨a, v, rfl, _⟩ := h
    rfl
  · obtain ⟨a, v, rfl, x, n, ha, k⟩ := h
    refine ⟨_, (pss_one (ps_ost (pv 0) (pv 1))), ?_⟩
    exact ⟨_, rfl, _, rfl, a, T.C_InvalidKey, rfl, x, n, .inl ⟨ha, k⟩⟩
theorem ok_require_key (T : Txt K mg) : FnOk P w K mg base (L2.CX P w) 3 T.f_require_key T.fd_require_key ["value"] (sp_req K intO T.C_InvalidKey "value") := by
  refine T.F_require_key.okX sc_require_key (fun vs H Q E h => ?_) (fun cdv A outer s H vs Q E hr h => ?_)
  · obtain ⟨v, o, rfl, _⟩ := h
    rfl
  · obtain ⟨v, o, rfl, hv, k1, k2⟩ := h
    refine ⟨_, (pss_one (ps_if (pt_not (pt_val (pe_call (ok_is_integer T) (hr.mono (by decide)) rfl T.m_is_integer T.F_is_integer.kp T.b_is_integer .nil pass0 (pa_cons (pv 0) pa_nil)))) (pss_one (ps_raise rfl (takes_of rfl rfl rfl rfl) (pmk_oex T.x_InvalidKey T.i_InvalidKey T.t_InvalidKey (ok_InvalidKey_init T) hr T.b_InvalidKey_init .nil pass0 rfl T.g_InvalidKey (pa_cons (pv 0) pa_nil)))) pss_nil)), ?_⟩
    have t := vd_vO hv
    refine ⟨_, rfl, v, o, rfl, t.1, t.2, _, rfl, ?_⟩
    cases e : intO o with
    | true => exact iteF (k1 e H (Same.refl H))
    | false => exact iteT ⟨_, rfl, raise_x T.x_InvalidKey T.n_InvalidKey (k2 e)⟩
theorem ok_in_span (T : Txt K mg) : FnOk P w K mg base (L2.CX P w) 5 T.f_in_span T.fd_in_span ["span", "key"] (sp_in_span K T.C_InvalidSpan T.C_InvalidKey) := by
  refine T.F_in_span.okX sc_in_span (fun vs H Q E h => ?_) (fun cdv A outer s H vs Q E hr h => ?_)
  · obtain ⟨x, y, o, o2, rfl, _⟩ := h
    rfl
  · obtain ⟨x, y, o, o2, rfl, hx, hy, k1, k2, k3⟩ := h
    refine ⟨_, (pss_cons (ps_expr (pe_call (ok_require_span T) hr rfl T.m_require_span T.F_require_span.kp T.b_require_span .nil (passC (takes_of rfl rfl rfl rfl)) (pa_cons (pv 0) pa_nil)))
        (pss_cons (ps_expr (pe_call (ok_require_key T) (hr.mono (by decide)) rfl T.m_require_key T.F_require_key.kp T.b_require_key .nil (passC (takes_of rfl rfl rfl rfl)) (pa_cons (pv 1) pa_nil)))
        (pss_cons (ps_asg (pv 0) (pg_tup rfl (pgs_cons (pg_name (i := 2) sc_in_span.nd rfl (Or.inl rfl)) (pgs_cons (pg_name (i := 3) sc_in_span.nd rfl (Or.inl rfl)) pgs_nil))))
        (pss_one (ps_ret (pe_and (pe_or (pe_cmpR op_isN (pv 2) pe_non (nomark _)) (pe_one (pe_cmpR op_le (pv 2) (pv 1) (nomark _)))) (pe_one (pe_or (pe_cmpR op_isN (pv 3) pe_non (nomark _)) (pe_one (pe_cmpR op_lt (pv 1) (pv 3) (nomark _))))))))))), ?_⟩
    refine ⟨_, rfl, x, o, rfl, hx, fun e1 H1 s1 => ?_, fun e => k1 e⟩
    refine ⟨_, rfl, y, o2, rfl, hy.mono s1, fun e2 H2 s2 => ?_, fun e => (k2 e1 e).back s1⟩
    obtain ⟨s', rfl, os⟩ := spanO_of e1
    obtain ⟨i, rfl, rfl⟩ := intO_of hy e2
    obtain ⟨a, rfl, ha⟩ := hx.sp
    have s12 := s1.trans s2
    have ha2 := same_t s12 ha
    have k := k3 s' i rfl os rfl H2 s12
    obtain ⟨l, u⟩ := s'
    refine ⟨_, rfl, a, _, rfl, ha2, rfl, _, _, rfl, _, _, rfl, rfl, ?_⟩
    have k : Q (.bl (loB l i && hiB u i)) H2 := k
    cases l with
    | none =>
      refine ⟨_, rfl, rfl, _, rfl, iteT ⟨_, rfl, iteT ?_⟩⟩
      cases u with
      | none => exact ⟨_, rfl, rfl, _, rfl, iteT k⟩
      | some j => exact ⟨_, rfl, rfl, _, rfl, iteF ⟨_, rfl, _, rfl, _, _, rfl, rfl, k⟩⟩
    | some j0 =>
      refine ⟨_, rfl, rfl, _, rfl, iteF ⟨_, rfl, _, rfl, _, _, rfl, rfl, _, rfl, ?_⟩⟩
      have k : Q (.bl (decide (j0 ≤ i) && hiB u i)) H2 := k
      cases ej : decide (j0 ≤ i) with
      | false =>
        rw [ej] at k
        exact iteF k
      | true =>
        rw [ej] at k
        refine iteT ?_
        cases u with
        | none => exact ⟨_, rfl, rfl, _, rfl, iteT k⟩
        | some j => exact ⟨_, rfl, rfl, _, rfl, iteF ⟨_, rfl, _, rfl, _, _, rfl, rfl, k⟩⟩
theorem ok_law_has (T : Txt K mg) : FnOk P w K mg base CX0 1 T.f_law_has T.fd_law_has ["_law_piece", "_law_place"] (sp_has K) := by
  refine T.F_law_has.ok sc_law_has (fun vs H Q E h => ?_) (fun cdv A outer s H vs Q E hr h => ?_)
  · obtain ⟨a, s, i, rfl, _⟩ := h
    rfl
  · obtain ⟨a, s', i, rfl, ha2, k⟩ := h
    refine ⟨_, (pss_one (ps_ret (pe_and (pe_or (pe_cmpR op_isN (pe_ix ix_tup (pv 0) pe_int (fun _ _ => rfl)) pe_non (nomark _)) (pe_one (pe_cmpR op_le (pe_ix ix_tup (pv 0) pe_int (fun _ _ => rfl)) (pv 1) (nomark _)))) (pe_one (pe_or (pe_cmpR op_isN (pe_ix ix_tup (pv 0) pe_int (fun _ _ => rfl)) pe_non (nomark _)) (pe_one (pe_cmpR op_lt (pv 1) (pe_ix ix_tup (pv 0) pe_int (fun _ _ => rfl)) (nomark _)))))))), ?_⟩
    obtain ⟨l, u⟩ := s'
    have k : Q (.bl (loB l i && hiB u i)) H := k
    cases l with
    | none =>
      refine ⟨_, rfl, a, _, 0, .non, rfl, rfl, ha2, atI_nat (j := 0) rfl, rfl, _, rfl, iteT ⟨_, rfl, iteT ?_⟩⟩
      cases u with
      | none => exact ⟨_, rfl, a, _, 1, .non, rfl, rfl, ha2, atI_nat (j := 1) rfl, rfl, _, rfl, iteT k⟩
      | some j => exact ⟨_, rfl, a, _, 1, .int j, rfl, rfl, ha2, atI_nat (j := 1) rfl, rfl, _, rfl, iteF ⟨_, rfl, _, rfl, a, _, 1, .int j, rfl, rfl, ha2, atI_nat (j := 1) rfl, _, _, rfl, rfl, k⟩⟩
    | some j0 =>
      refine ⟨_, rfl, a, _, 0, .int j0, rfl, rfl, ha2, atI_nat (j := 0) rfl, rfl, _, rfl, iteF ⟨_, rfl, a, _, 0, .int j0, rfl, rfl, ha2, atI_nat (j := 0) rfl, _, rfl, _, _, rfl, rfl, _, rfl, ?_⟩⟩
      have k : Q (.bl (decide (j0 ≤ i) && hiB u i)) H := k
      cases ej : decide (j0 ≤ i) with
      | false =>
        rw [ej] at k
        exact iteF k
      | true =>
        rw [ej] at k
        refine iteT ?_
        cases u with
        | none => exact ⟨_, rfl, a, _, 1, .non, rfl, rfl, ha2, atI_nat (j := 1) rfl, rfl, _, rfl, iteT k⟩
        | some j => exact ⟨_, rfl, a, _, 1, .int j, rfl, rfl, ha2, atI_nat (j := 1) rfl, rfl, _, rfl, iteF ⟨_, rfl, _, rfl, a, _, 1, .int j, rfl, rfl, ha2, atI_nat (j := 1) rfl, _, _, rfl, rfl, k⟩⟩
theorem ok_law_span (T : Txt K mg) : FnOk P w K mg base CX0 2 T.f_law_span T.fd_law_span ["_law_box_here"] (sp_draw 10 fun H v => ∃ p s, v = .ref p ∧ H p = some (.tup (spV s)) ∧ okS s = true) := by
  refine T.F_law_span.ok sc_law_span (fun vs H Q E h => ?_) (fun cdv A outer s H vs Q E hr h => ?_)
  · obtain ⟨H0, p, n, rfl, _⟩ := h
    rfl
  · obtain ⟨H0, p, n, rfl, B, hn, k⟩ := h
    refine ⟨_, (pss_cons (ps_set (i := 1) sc_law_span.nd rfl (Or.inl rfl) (pe_ix ix_list (pe_lst (pa_cons pe_int (pa_cons pe_int (pa_cons (pe_op op_pow pe_int pe_int) pa_nil)))) (pe_call (ok_law_take T) hr rfl T.m_law_take T.F_law_take.kp T.b_law_take .nil pass0 (pa_cons (pv 0) (pa_cons pe_int pa_nil))) (fun _ _ => rfl)))
        (pss_cons (ps_set (i := 2) sc_law_span.nd rfl (Or.inl rfl) (pe_op op_mul (pe_op op_sub (pe_call (ok_law_take T) hr rfl T.m_law_take T.F_law_take.kp T.b_law_take .nil pass0 (pa_cons (pv 0) (pa_cons pe_int pa_nil))) pe_int) (pv 1)))
        (pss_cons (ps_set (i := 3) sc_law_span.nd rfl (Or.inl rfl) (pe_op op_add (pv 2) (pe_op op_mul (pe_op op_add pe_int (pe_call (ok_law_take T) hr rfl T.m_law_take T.F_law_take.kp T.b_law_take .nil pass0 (pa_cons (pv 0) (pa_cons pe_int pa_nil)))) (pv 1))))
        (pss_one (ps_ret (pe_ix ix_list (pe_lst (pa_cons (pe_tup (pa_cons (pv 2) (pa_cons (pv 3) pa_nil))) (pa_cons (pe_tup (pa_cons (pv 2) (pa_cons (pv 3) pa_nil))) (pa_cons (pe_tup (pa_cons pe_non (pa_cons (pv 3) pa_nil))) (pa_cons (pe_tup (pa_cons (pv 2) (pa_cons pe_non pa_nil))) (pa_cons (pe_tup (pa_cons pe_non (pa_cons pe_non pa_nil))) pa_nil)))))) (pe_call (ok_law_take T) hr rfl T.m_law_take T.F_law_take.kp T.b_law_take .nil pass0 (pa_cons (pv 0) (pa_cons pe_int pa_nil))) (fun _ _ => rfl))))))), ?_⟩
    refine ⟨_, _, rfl, rfl, ⟨by decide, by decide, by decide⟩, (by show 3 ≤ sizeLine; decide), fun l hl => ?_⟩
    have B1 := B.new (o := .lst [.int 1, .int 1, .int (10 ^ (28 : Int).toNat)]) hl
    refine ⟨_, rfl, _, p, _, 3, rfl, B1.1, by omega, by decide, by decide, fun z2 H2 z20 z21 B2 => ?_⟩
    obtain ⟨v, hv, hm⟩ := atI_in (xs := [V.int 1, .int 1, .int (10 ^ (28 : Int).toNat)]) z20 z21
    obtain ⟨g, rfl, hg⟩ : ∃ g : Int, v = .int g ∧ 0 < g := by
      simp only [List.mem_cons, List.not_mem_nil, or_false] at hm
      rcases hm with rfl | rfl | rfl
      all_goals exact ⟨_, rfl, by decide⟩
    refine ⟨l, _, z2, _, rfl, rfl, SqL.of (B2.same _ _ upd_same), hv, ?_⟩
    refine ⟨_, rfl, _, p, _, 13, rfl, B2, by omega, by decide, by decide, fun z3 H3 z30 z31 B3 => ?_⟩
    refine ⟨_, _, rfl, rfl, _, rfl, _, _, rfl, rfl, .inl ⟨by omega, by omega⟩, ?_⟩
    refine ⟨_, rfl, _, rfl, _, p, _, 5, rfl, B3, by omega, by decide, by decide, fun z4 H4 z40 z41 B4 => ?_⟩
    refine ⟨_, _, rfl, rfl, _, rfl, _, _, rfl, rfl, .inl ⟨by omega, by omega⟩, _, _, rfl, rfl, ?_⟩
    have hpos : (z3 - 6) * g < (z3 - 6) * g + (1 + z4) * g := by
      have : 0 < (1 + z4) * g := Int.mul_pos (by omega) hg
      omega
    refine ⟨_, rfl, _, rfl, (by show 2 ≤ sizeLine; decide), fun t1 h1 => ?_⟩
    have C1 := B4.new (o := .tup [.int ((z3 - 6) * g), .int ((z3 - 6) * g + (1 + z4) * g)]) h1
    refine ⟨_, rfl, _, rfl, (by show 2 ≤ sizeLine; decide), fun t2 h2 => ?_⟩
    have C2 := C1.1.new (o := .tup [.int ((z3 - 6) * g), .int ((z3 - 6) * g + (1 + z4) * g)]) h2
    refine ⟨_, rfl, (by show 2 ≤ sizeLine; decide), fun t3 h3 => ?_⟩
    have C3 := C2.1.new (o := .tup [.non, .int ((z3 - 6) * g + (1 + z4) * g)]) h3
    refine ⟨_, rfl, (by show 2 ≤ sizeLine; decide), fun t4 h4 => ?_⟩
    have C4 := C3.1.new (o := .tup [.int ((z3 - 6) * g), .non]) h4
    refine ⟨(by show 2 ≤ sizeLine; decide), fun t5 h5 => ?_⟩
    have C5 := C4.1.new (o := .tup [.non, .non]) h5
    refine ⟨(by show 5 ≤ sizeLine; decide), fun l2 hl2 => ?_⟩
    have C6 := C5.1.new (o := .lst [.ref t1, .ref t2, .ref t3, .ref t4, .ref t5]) hl2
    refine ⟨_, rfl, _, p, _, 5, rfl, C6.1, by omega, by decide, by decide, fun z5 H5 z50 z51 B5 => ?_⟩
    obtain ⟨v, hv, hm⟩ := atI_in (xs := [V.ref t1, .ref t2, .ref t3, .ref t4, .ref t5]) z50 z51
    refine ⟨l2, _, z5, v, rfl, rfl, SqL.of (B5.same _ _ upd_same), hv, ?_⟩
    have m6 := C6.2
    have m5 := C5.2.trans m6
    have m4 := C4.2.trans m5
    have m3 := C3.2.trans m4
    have m2 := C2.2.trans m3
    refine k _ H5 v (B1.2.trans (C1.2.trans m2)) (B5.mono (by omega)) ?_
    simp only [List.mem_cons, List.not_mem_nil, or_false] at hm
    rcases hm with rfl | rfl | rfl | rfl | rfl
    · exact ⟨t1, (some ((z3 - 6) * g), some ((z3 - 6) * g + (1 + z4) * g)), rfl, m2 _ _ upd_same, decide_eq_true hpos⟩
    · exact ⟨t2, (some ((z3 - 6) * g), some ((z3 - 6) * g + (1 + z4) * g)), rfl, m3 _ _ upd_same, decide_eq_true hpos⟩
    · exact ⟨t3, (none, some ((z3 - 6) * g + (1 + z4) * g)), rfl, m4 _ _ upd_same, rfl⟩
    · exact ⟨t4, (some ((z3 - 6) * g), none), rfl, m5 _ _ upd_same, rfl⟩
    · exact ⟨t5, (none, none), rfl, m6 _ _ upd_same, rfl⟩
theorem ok_law_keys (T : Txt K mg) : FnOk P w K mg base CX0 1 T.f_law_keys T.fd_law_keys ["_law_spans"] (sp_keys K) := by
  refine T.F_law_keys.ok sc_law_keys (fun vs H Q E h => ?_) (fun cdv A outer s H vs Q E hr h => ?_)
  · obtain ⟨l, ss, rfl, _⟩ := h
    rfl
  · obtain ⟨l, ss, rfl, hL, hss, hlen, k⟩ := h
    refine ⟨_, (pss_cons (ps_set (i := 1) sc_law_keys.nd rfl (Or.inl rfl) (pe_lst (pa_cons pe_int pa_nil)))
        (pss_cons (ps_for PassesOwn.never rfl (pi_list (pv 0)) (pg_name (i := 2) sc_law_keys.nd rfl (Or.inl rfl))
          (pss_one (ps_for PassesOwn.never rfl (pi_tup (pv 2)) (pg_name (i := 3) sc_law_keys.nd rfl (Or.inl rfl))
          (pss_one (ps_if (pt_cmpR op_notN (pv 3) pe_non (nomark _)) (pss_one (ps_set (i := 1) sc_law_keys.nd rfl (Or.inl rfl) (pe_op op_cat (pv 1) (pe_lst (pa_cons (pe_op op_sub (pv 3) pe_int) (pa_cons (pv 3) (pa_cons (pe_op op_add (pv 3) pe_int) pa_nil))))))) pss_nil)))))
        (pss_one (ps_ret (pv 1))))), ?_⟩
    refine ⟨(by show 1 ≤ sizeLine; decide), fun f0 hf0 => ?_⟩
    have s0 := same_new (o := .lst [.int 0]) hf0
    refine ⟨_, rfl, l, rfl, ⟨_, s0.seq hL⟩, for_list (K := K) (a := l) (xs := ss.map fun q => V.ref q.1) (fun i σ H' => ∃ (f : Addr) (v2 v3 : Option V), σ = [some (.ref l), some (.ref f), v2, v3] ∧ Same H H' ∧ H f = none ∧ H' f = some (.lst ((keysL ((ss.take i).map (·.2))).map V.int)))
      ⟨f0, none, none, rfl, s0, hf0, upd_same⟩ (fun i σ H' _ ⟨_, _, _, _, s1, _⟩ => s1.seq hL) ?_ ?_⟩
    · rintro i y σ H1 hi ⟨f, v2, v3, rfl, s1, hf, hl⟩
      rw [List.getElem?_map] at hi
      obtain ⟨⟨p, s'⟩, hi', rfl⟩ := Option.map_eq_some_iff.mp hi
      have hp := hss _ (List.mem_of_getElem? hi')
      have hilt : i < ss.length := (List.getElem?_eq_some_iff.mp hi').1
      have step : (ss.take (i + 1)).map (·.2) = (ss.take i).map (·.2) ++ [s'] := by
        rw [List.take_add_one, hi']
        simp
      refine ⟨_, rfl, p, rfl, ⟨_, same_t s1 hp⟩, for_tup (K := K) (a := p) (xs := spV s') (fun j σ H' => ∃ (f : Addr) (v3 : Option V), σ = [some (.ref l), some (.ref f), some (.ref p), v3] ∧ Same H H' ∧ H f = none ∧ H' f = some (.lst ((keysL ((ss.take i).map (·.2)) ++ inner s' j).map V.int)))
        ⟨f, v3, rfl, s1, hf, by rw [hl]; simp [inner]⟩ (fun j σ H' _ ⟨_, _, _, s2, _⟩ => same_t s2 hp) ?_ ?_⟩
      · rintro j z σ H2 hj ⟨f2, v3, rfl, s2, hf2, hl2⟩
        have bound : (keysL ((ss.take i).map (·.2)) ++ inner s' j).length ≤ 100 := by
          have h1 := keysL_len ((ss.take i).map (·.2))
          have h2 := inner_len s' j
          rw [List.length_map, List.length_take] at h1
          rw [List.length_append]
          omega
        obtain ⟨o, rfl, es⟩ := inner_at hj
        refine ⟨_, rfl, rfl, _, rfl, ?_⟩
        cases o with
        | none =>
          refine iteF ⟨f2, _, rfl, s2, hf2, ?_⟩
          rw [es]
          simpa [lim3] using hl2
        | some m =>
          refine iteT ⟨_, rfl, _, rfl, _, _, rfl, rfl, _, rfl, _, rfl, _, _, rfl, rfl, (by show 3 ≤ sizeLine; decide), fun q hq => ?_⟩
          have s3 := same_new (o := .lst [.int (m - 1), .int m, .int (m + 1)]) hq
          refine ⟨f2, q, _, _, rfl, rfl, s3 _ _ hl2, upd_same, ?_, fun r hr' => ?_⟩
          · rw [List.length_map]
            exact Nat.le_trans (Nat.add_le_add_right bound 3) (by decide)
          refine ⟨r, _, rfl, s2.trans (s3.trans (same_new hr')), (s2.trans s3).free hr', ?_⟩
          rw [upd_same, es]
          simp [lim3, limV]
      · rintro σ H2 ⟨f2, v3, rfl, s2, hf2, hl2⟩
        refine ⟨f2, _, _, rfl, s2, hf2, ?_⟩
        rw [step, keysL_snoc]
        exact hl2
    · rintro σ H1 ⟨f, v2, v3, rfl, s1, hf, hl⟩
      rw [List.length_map, List.take_length] at hl
      exact ⟨_, rfl, k f H1 s1 hf hl⟩
theorem ok_law_told (T : Txt K mg) : FnOk P w K mg base CX0 7 T.f_law_told T.fd_law_told ["_law_way", "_law_first", "_law_second"] (sp_told K) := by
  refine T.F_law_told.ok sc_law_told (fun vs H Q E h => ?_) (fun cdv A outer s H vs Q E hr h => ?_)
  · obtain ⟨n, x, y, o, o2, rfl, _⟩ := h
    rfl
  · obtain ⟨n, x, y, o, o2, rfl, hx, hy, k⟩ := h
    refine ⟨_, (pss_one (ps_try_manyAs (i := 3) (n := "e") rfl rfl sc_law_told.nd rfl rfl takes0 (fun W pn xe tk _ => by exact (pss_cons (ps_if (pt_cmpR op_eq (pv 0) pe_int (nomark _)) (pss_one (ps_ret (pe_lst (pa_cons pe_str (pa_cons (pe_callS (ok_in_span T) (hr.mono (by decide)) rfl T.m_in_span T.F_in_span.kp T.b_in_span (fun σ => passAt tk σ) (pa_cons (pv 1) (pa_cons (pv 2) pa_nil))) pa_nil))))) pss_nil)
        (pss_cons (ps_if (pt_cmpR op_eq (pv 0) pe_int (nomark _)) (pss_one (ps_ret (pe_lst (pa_cons pe_str (pa_cons (pe_callS (ok_meet T) hr rfl T.m_meet T.F_meet.kp T.b_meet (fun σ => passAt tk σ) (pa_cons (pv 1) (pa_cons (pv 2) pa_nil))) pa_nil))))) pss_nil)
        (pss_one (ps_ret (pe_lst (pa_cons pe_str (pa_cons (pe_kw0 (g := kwg_common_0_other_one) (ok_common T) (hr.mono (by decide)) rfl T.m_common T.F_common.kp T.k_common_0_other_one (fun σ => passAt tk σ) (pk_cons (pv 2) (pk_cons (pv 1) pk_nil))) pa_nil))))))))
          (HdsAs.cons ⟨rfl, by decide, Or.inl T.g_InvalidSpan⟩ (fun a oe cls d pn hz hf => by exact (pss_one (ps_ret (pe_lst (pa_cons pe_str (pa_cons (pe_xf T.y_InvalidSpan T.n_InvalidSpan hz hf (pv 3)) pa_nil)))))) (HdsAs.cons ⟨rfl, by decide, Or.inl T.g_InvalidKey⟩ (fun a oe cls d pn hz hf => by exact (pss_one (ps_ret (pe_lst (pa_cons pe_str (pa_cons (pe_xf T.y_InvalidKey T.n_InvalidKey hz hf (pv 3)) pa_nil)))))) HdsAs.nil)))), ?_⟩
    have lk : ∀ v : V, List.lookup ("value" : Str) [(("value" : Str), v)] = some v := fun v => by simp [List.lookup]
    -- the two ways in which it is told of a span
    have hS : spanO o = false → Told H Q "span" x := fun e => by
      rcases k with ⟨_, k⟩ | ⟨e1, _⟩ | ⟨e1, _⟩
      · exact k
      · rw [e] at e1
        cases e1
      · rw [e] at e1
        cases e1
    have hS2 : n ≠ 0 → spanO o = true → spanO o2 = false → Told H Q "span" y := fun h0 e e2 => by
      rcases k with ⟨e1, _⟩ | ⟨_, _, _, k⟩ | ⟨_, e1, _⟩
      · rw [e] at e1
        cases e1
      · exact k
      · exact absurd e1 h0
    have no : n ≠ 0 → ¬ (spanO o = true ∧ spanO o2 = true) := fun h0 e => by
      rcases k with ⟨e1, _⟩ | ⟨_, _, e1, k⟩ | ⟨_, e1, _⟩
      · rw [e.1] at e1
        cases e1
      · rw [e.2] at e1
        cases e1
      · exact absurd e1 h0
    refine ⟨_, rfl, rfl, _, rfl, ?_⟩
    refine ite2 (fun c => ?_) (fun c => ?_)
    · have h0 : n = 0 := by
        rw [dec_int] at c
        simpa using c
      refine ⟨_, rfl, _, rfl, x, y, o, o2, rfl, hx, hy, fun e d H' nd hd sm => ?_, fun e e2 d H' nd hd sm => ?_, fun s' i e os e2 H' sm => ?_⟩
      · exact ⟨true, T.e_InvalidSpan_InvalidSpan, fun _ a ha => ⟨_, rfl, rfl, rfl, d, _, x, rfl, hd, lk x, (by show 2 ≤ sizeLine; decide), fun p hp => hS e p _ (sm.trans (same_new hp)) (sm.free hp) upd_same⟩, fun q => nomatch q⟩
      · have kk : Told H Q "key" y := by
          rcases k with ⟨e1, _⟩ | ⟨_, e1, _⟩ | ⟨_, _, _, k⟩
          · rw [e] at e1
            cases e1
          · exact absurd h0 e1
          · exact k
        exact ⟨false, T.e_InvalidKey_InvalidSpan, (fun q => nomatch q), fun _ => ⟨true, T.e_InvalidKey_InvalidKey, fun _ a ha => ⟨_, rfl, rfl, rfl, d, _, y, rfl, hd, lk y, (by show 2 ≤ sizeLine; decide), fun p hp => kk p _ (sm.trans (same_new hp)) (sm.free hp) upd_same⟩, fun q => nomatch q⟩⟩
      · exfalso
        subst e e2
        rcases k with ⟨e1, _⟩ | ⟨_, e1, _⟩ | ⟨_, _, e1, _⟩
        · rw [spanO_ok, os] at e1
          cases e1
        · exact e1 h0
        · cases e1
    · have h0 : n ≠ 0 := by
        rw [dec_int] at c
        simpa using c
      refine ⟨_, rfl, rfl, _, rfl, ?_⟩
      refine ite2 (fun c => ?_) (fun c => ?_)
      · refine ⟨_, rfl, _, rfl, x, y, o, o2, rfl, hx, hy, fun e d H' nd hd sm => ?_, fun e e2 d H' nd hd sm => ?_, fun s' t e os e2 ot H' sm => ?_⟩
        · exact ⟨true, T.e_InvalidSpan_InvalidSpan, fun _ a ha => ⟨_, rfl, rfl, rfl, d, _, x, rfl, hd, lk x, (by show 2 ≤ sizeLine; decide), fun p hp => hS e p _ (sm.trans (same_new hp)) (sm.free hp) upd_same⟩, fun q => nomatch q⟩
        · exact ⟨true, T.e_InvalidSpan_InvalidSpan, fun _ a ha => ⟨_, rfl, rfl, rfl, d, _, y, rfl, hd, lk y, (by show 2 ≤ sizeLine; decide), fun p hp => hS2 h0 e e2 p _ (sm.trans (same_new hp)) (sm.free hp) upd_same⟩, fun q => nomatch q⟩
        · exfalso
          subst e e2
          exact no h0 ⟨by rw [spanO_ok]; exact os, by rw [spanO_ok]; exact ot⟩
      · refine ⟨_, rfl, _, rfl, rfl, rfl, x, y, o, o2, rfl, hx, hy, fun e d H' nd hd sm => ?_, fun e e2 d H' nd hd sm => ?_, fun s' t e os e2 ot => ?_⟩
        · exact ⟨true, T.e_InvalidSpan_InvalidSpan, fun _ a ha => ⟨_, rfl, rfl, rfl, d, _, x, rfl, hd, lk x, (by show 2 ≤ sizeLine; decide), fun p hp => hS e p _ (sm.trans (same_new hp)) (sm.free hp) upd_same⟩, fun q => nomatch q⟩
        · exact ⟨true, T.e_InvalidSpan_InvalidSpan, fun _ a ha => ⟨_, rfl, rfl, rfl, d, _, y, rfl, hd, lk y, (by show 2 ≤ sizeLine; decide), fun p hp => hS2 h0 e e2 p _ (sm.trans (same_new hp)) (sm.free hp) upd_same⟩, fun q => nomatch q⟩
        · exfalso
          subst e e2
          exact no h0 ⟨by rw [spanO_ok]; exact os, by rw [spanO_ok]; exact ot⟩
theorem ok_law_same (T : Txt K mg) : FnOk P w K mg base CX0 2 T.f_law_same T.fd_law_same ["_law_told_here", "_law_first", "_law_second"] (sp_same K) := by
  refine T.F_law_same.ok sc_law_same (fun vs H Q E h => ?_) (fun cdv A outer s H vs Q E hr h => ?_)
  · obtain ⟨c, p, q, s', t, rfl, _⟩ := h
    rfl
  · obtain ⟨c, p, q, s', t, rfl, hc, hp, hq, k⟩ := h
    refine ⟨_, (pss_cons (ps_for PassesOwn.never rfl (pi_list (pe_call (ok_law_keys T) hr rfl T.m_law_keys T.F_law_keys.kp T.b_law_keys .nil pass0 (pa_cons (pe_lst (pa_cons (pv 0) (pa_cons (pv 1) (pa_cons (pv 2) pa_nil)))) pa_nil))) (pg_name (i := 3) sc_law_same.nd rfl (Or.inl rfl))
          (pss_one (ps_if (pt_cmpR op_ne (pe_call (ok_law_has T) hr rfl T.m_law_has T.F_law_has.kp T.b_law_has .nil pass0 (pa_cons (pv 0) (pa_cons (pv 3) pa_nil))) (pe_and (pe_call (ok_law_has T) hr rfl T.m_law_has T.F_law_has.kp T.b_law_has .nil pass0 (pa_cons (pv 1) (pa_cons (pv 3) pa_nil))) (pe_one (pe_call (ok_law_has T) hr rfl T.m_law_has T.F_law_has.kp T.b_law_has .nil pass0 (pa_cons (pv 2) (pa_cons (pv 3) pa_nil))))) (nomark _)) (pss_one (ps_ret pe_bl)) pss_nil)))
        (pss_cons (ps_set (i := 4) sc_law_same.nd rfl (Or.inr rfl) (pe_lc (own := [("_law_limit", 5)]) (g := gName 5) rfl sc_law_same.nd (pi_tup (pe_op op_catA (pv 1) (pv 2))) (blkOk_by (own := [("_law_limit", 5)]) (N := ["_law_told_here", "_law_first", "_law_second", "_law_place", "_law_limits", "_law_limit"]) (sc := defScope s_law_same) (by decide +kernel)) (fun _ _ _ _ _ => (pg_name (i := 5) sc_law_same.nd rfl (Or.inl rfl))) (fun _ _ _ _ _ => (pts_one (pt_cmpR op_notN (pv 5) pe_non (nomark _)))) (fun _ _ _ _ _ => (pv 5))))
        (pss_one (ps_ret (pe_cmpR (op_eqD hr.units) (pe_lc (own := [("_law_limit", 5)]) (g := gName 5) rfl sc_law_same.nd (pi_tup (pv 0)) (blkOk_by (own := [("_law_limit", 5)]) (N := ["_law_told_here", "_law_first", "_law_second", "_law_place", "_law_limits", "_law_limit"]) (sc := defScope s_law_same) (by decide +kernel)) (fun _ _ _ _ _ => (pg_name (i := 5) sc_law_same.nd rfl (Or.inl rfl))) (fun _ _ _ _ _ => (pts_one (PW.pt (pw_and (pt_cmpR op_notN (pv 5) pe_non (nomark _)) (pw_and1 (pt_cmpR (r := rIn K true) op_notIn_seq (pv 5) (pv 4) (by rfl))))))) (fun _ _ _ _ _ => (pv 5))) (pe_lst pa_nil) (nomark _)))))), ?_⟩
    refine ⟨_, rfl, _, rfl, _, rfl, (by show 3 ≤ sizeLine; decide), fun l hl => ?_⟩
    have s1 := same_new (o := .lst [.ref c, .ref p, .ref q]) hl
    refine ⟨l, [(c, comS s' t), (p, s'), (q, t)], rfl, SqL.of upd_same, fun z hz => ?_, (by show 3 ≤ 3; decide), fun f H1 s2 hf hfl => ?_⟩
    · simp only [List.mem_cons, List.not_mem_nil, or_false] at hz
      rcases hz with rfl | rfl | rfl
      · exact same_t s1 hc
      · exact same_t s1 hp
      · exact same_t s1 hq
    have s12 := s1.trans s2
    refine ⟨f, rfl, ⟨_, SqL.of hfl⟩, for_list (K := K) (a := f) (xs := (keysL [comS s' t, s', t]).map V.int) (fun i σ H' => ∃ v3 : Option V, σ = [some (.ref c), some (.ref p), some (.ref q), v3, none, none] ∧ Same H1 H') ⟨none, rfl, Same.refl _⟩ (fun i σ H' _ ⟨_, _, k⟩ => k.seq (SqL.of hfl)) ?_ ?_⟩
    · rintro i y σ H2 hi ⟨v3, rfl, s3⟩
      rw [List.getElem?_map] at hi
      obtain ⟨n, hn, rfl⟩ := Option.map_eq_some_iff.mp hi
      have s13 := s12.trans s3
      refine ⟨_, rfl, _, rfl, c, comS s' t, n, rfl, same_t s13 hc, ?_⟩
      refine ⟨_, rfl, _, rfl, p, s', n, rfl, same_t s13 hp, _, rfl, ?_⟩
      have go : ∀ bb, bb = inS (comS s' t) n → scal (.bl (inS (comS s' t) n)) (.bl bb) = true ∧ (!decide (V.bl (inS (comS s' t) n) = V.bl bb)) = false := by
        rintro bb rfl
        exact ⟨rfl, by rw [dec_bl]; cases inS (comS s' t) n <;> rfl⟩
      cases e1 : inS s' n with
      | false =>
        obtain ⟨g1, g2⟩ := go false (by rw [inS_com, e1]; rfl)
        refine iteF ⟨g1, _, rfl, ?_⟩
        rw [g2]
        exact iteF ⟨_, rfl, s3⟩
      | true =>
        refine iteT ⟨_, rfl, _, rfl, q, t, n, rfl, same_t s13 hq, ?_⟩
        obtain ⟨g1, g2⟩ := go (inS t n) (by rw [inS_com, e1]; rfl)
        refine ⟨g1, _, rfl, ?_⟩
        rw [g2]
        exact iteF ⟨_, rfl, s3⟩
    · rintro σ H2 ⟨v3, rfl, s3⟩
      have s13 := s12.trans s3
      refine ⟨_, rfl, _, rfl, p, q, spV s', spV t, rfl, rfl, same_t s13 hp, same_t s13 hq, (by show 4 ≤ sizeLine; decide), (fun e => nomatch e), (fun _ e => nomatch e), fun _ _ m hm => ?_⟩
      have s4 := same_new (o := .tup (spV s' ++ spV t)) hm
      refine ⟨m, rfl, ⟨_, SqT.of upd_same⟩, fun D hD => ?_⟩
      refine lc_acc walk_tup hD (fun H' k => SqT.of (k _ _ upd_same)) (fun i => ((spV s' ++ spV t).take i).filter fun v => !decide (v = .non)) rfl (fun i _ => Nat.lt_of_le_of_lt (List.length_filter_le _ _) (Nat.lt_of_le_of_lt (by rw [List.length_take]; exact Nat.min_le_right _ _) (by show 4 < sizeLine; decide))) ?_ ?_
      · rintro i z H3 hi hz k R S r1 r2
        refine ⟨rfl, _, rfl, rfl, _, rfl, ?_⟩
        have hz' : (spV s' ++ spV t)[i]? = some z := hz
        cases e : decide (z = V.non) with
        | true => exact iteF (r2 _ (by rw [List.take_add_one, hz']; simp [e]) (Same.refl _))
        | false => exact iteT ⟨_, rfl, r1 _ _ (by rw [List.take_add_one, hz']; simp [e]) (Same.refl _)⟩
      intro H3 s5 hl3
      have hl3 : H3 D = some (.lst (limsV s' t)) := hl3
      have s15 := s13.trans (s4.trans s5)
      refine ⟨_, rfl, c, rfl, ⟨_, same_t s15 hc⟩, fun D2 hD2 => ?_⟩
      refine lc_acc walk_tup hD2 (fun H' k => same_t (s15.trans k) hc) (fun _ => []) rfl (fun _ _ => by show 0 < sizeLine; decide) ?_ ?_
      · rintro i z H4 hi hz k R S r1 r2
        refine ⟨rfl, _, rfl, rfl, _, rfl, ?_⟩
        obtain ⟨o, rfl, ho⟩ := com_lim hz
        cases o with
        | none => exact iteF (iteF (r2 _ rfl (Same.refl _)))
        | some n =>
          refine iteT ⟨_, rfl, _, rfl, D, _, rfl, .inl (SqL.of (k _ _ hl3)), rfl, limsV_flat s' t, _, rfl, ?_⟩
          have : inV (V.int n) (limsV s' t) = true := ho n rfl
          show (if (!inV (V.int n) (limsV s' t)) = true then _ else _)
          rw [this]
          exact iteF (r2 _ rfl (Same.refl _))
      intro H4 s6 hl4
      refine ⟨Nat.zero_le _, fun z hz => ?_⟩
      have s7 := same_new (o := .lst []) hz
      refine ⟨_, _, .lst (SqL.of (s7 _ _ hl4)) .nil, .lst (SqL.of upd_same) .nil, shaped_nil, shaped_nil, ?_⟩
      exact k _ (s15.trans (s6.trans s7))
theorem ok_law_right (T : Txt K mg) : FnOk P w K mg base CX0 7 T.f_law_right T.fd_law_right ["_law_first", "_law_second"] (sp_right K) := by
  refine T.F_law_right.ok sc_law_right (fun vs H Q E h => ?_) (fun cdv A outer s H vs Q E hr h => ?_)
  · obtain ⟨p, q, s', t, rfl, _⟩ := h
    rfl
  · obtain ⟨p, q, s', t, rfl, hp, hq, os, ot, k⟩ := h
    refine ⟨_, (pss_cons (ps_set (i := 2) sc_law_right.nd rfl (Or.inl rfl) (pe_call (ok_law_keys T) (hr.mono (by decide)) rfl T.m_law_keys T.F_law_keys.kp T.b_law_keys .nil pass0 (pa_cons (pe_lst (pa_cons (pv 0) (pa_cons (pv 1) pa_nil))) pa_nil)))
        (pss_cons (ps_setLc (i := 3) (own := [("_law_place", 4)]) (g := gName 4) rfl sc_law_right.nd rfl rfl (sw_true rfl rfl rfl (by decide +kernel)) (pi_list (pv 2)) (blkOk_by (own := [("_law_place", 4)]) (N := ["_law_first", "_law_second", "_law_keys_here", "_law_both", "_law_place", "_law_told_here", "_law_inner", "_law_item"]) (sc := defScope s_law_right) (by decide +kernel)) (fun _ _ _ _ _ => (pg_name (i := 4) sc_law_right.nd rfl (Or.inl rfl))) (fun _ _ _ _ _ => (pts_one (PW.pt (pw_and (pt_val (pe_call (ok_law_has T) (hr.mono (by decide)) rfl T.m_law_has T.F_law_has.kp T.b_law_has .nil pass0 (pa_cons (pv 0) (pa_cons (pv 4) pa_nil)))) (pw_and1 (pt_val (pe_call (ok_law_has T) (hr.mono (by decide)) rfl T.m_law_has T.F_law_has.kp T.b_law_has .nil pass0 (pa_cons (pv 1) (pa_cons (pv 4) pa_nil))))))))) (fun _ _ _ _ _ => (pv 4)))
        (pss_cons (ps_for PassesOwn.never rfl (pi_list (pv 2)) (pg_name (i := 4) sc_law_right.nd rfl (Or.inl rfl))
          (pss_cons (ps_set (i := 5) sc_law_right.nd rfl (Or.inr rfl) (pe_lst (pa_cons (pe_call (ok_in_span T) (hr.mono (by decide)) rfl T.m_in_span T.F_in_span.kp T.b_in_span .nil passL (pa_cons (pv 0) (pa_cons (pv 4) pa_nil))) (pa_cons (pe_kw0 (g := kwg_in_span_0_key_span) (ok_in_span T) (hr.mono (by decide)) rfl T.m_in_span T.F_in_span.kp T.k_in_span_0_key_span (passAt_of passL) (pk_cons (pv 4) (pk_cons (pv 1) pk_nil))) pa_nil))))
        (pss_cons (ps_if (pt_cmpR (op_neD hr.units) (pe_lc (own := [("_law_item", 7)]) (g := gName 7) rfl sc_law_right.nd (pi_list (pv 5)) (blkOk_by (own := [("_law_item", 7)]) (N := ["_law_first", "_law_second", "_law_keys_here", "_law_both", "_law_place", "_law_told_here", "_law_inner", "_law_item"]) (sc := defScope s_law_right) (by decide +kernel)) (fun _ _ _ _ _ => (pg_name (i := 7) sc_law_right.nd rfl (Or.inl rfl))) (fun _ _ _ _ _ => (pts_one (pt_not (pt_val (pe_callB (id := "isinstance") (r := rIsi K) call_isi (by rfl) T.z_isinstance (by decide +kernel) (pa_cons (pv 7) (pa_cons (pe_bltn (v := .ty "bool") (u := .type "bool") (by rfl) T.z_bool (by decide +kernel) rfl) pa_nil))))))) (fun _ _ _ _ _ => (pv 7))) (pe_lst pa_nil) (nomark _)) (pss_one (ps_ret pe_bl)) pss_nil)
        (pss_one (ps_if (pt_cmpR (op_neD hr.units) (pv 5) (pe_lst (pa_cons (pe_call (ok_law_has T) (hr.mono (by decide)) rfl T.m_law_has T.F_law_has.kp T.b_law_has .nil pass0 (pa_cons (pv 0) (pa_cons (pv 4) pa_nil))) (pa_cons (pe_call (ok_law_has T) (hr.mono (by decide)) rfl T.m_law_has T.F_law_has.kp T.b_law_has .nil pass0 (pa_cons (pv 1) (pa_cons (pv 4) pa_nil))) pa_nil))) (nomark _)) (pss_one (ps_ret pe_bl)) pss_nil)))))
        (pss_cons (ps_if (PW.pt (pw_or (pt_not (pt_val (pe_callB (id := "isinstance") call_isi (by rfl) T.z_isinstance (by decide +kernel) (pa_cons (pe_call (ok_meet T) hr rfl T.m_meet T.F_meet.kp T.b_meet .nil passL (pa_cons (pv 0) (pa_cons (pv 1) pa_nil))) (pa_cons (pe_bltn (v := .ty "bool") (u := .type "bool") (by rfl) T.z_bool (by decide +kernel) rfl) pa_nil))))) (pw_or1 (pt_cmpR op_ne (pe_call (ok_meet T) hr rfl T.m_meet T.F_meet.kp T.b_meet .nil passL (pa_cons (pv 0) (pa_cons (pv 1) pa_nil))) (pe_cmpR (op_neD hr.units) (pv 3) (pe_lst pa_nil) (nomark _)) (nomark _))))) (pss_one (ps_ret pe_bl)) pss_nil)
        (pss_cons (ps_set (i := 5) sc_law_right.nd rfl (Or.inr rfl) (pe_call (ok_common T) (hr.mono (by decide)) rfl T.m_common T.F_common.kp T.b_common .nil passL (pa_cons (pv 0) (pa_cons (pv 1) pa_nil))))
        (pss_cons (ps_if (PW.pt (pw_or (pt_cmpR op_isN (pv 5) pe_non (nomark _)) (pw_or1 (pt_cmpR (op_eqD hr.units) (pv 3) (pe_lst pa_nil) (nomark _))))) (pss_one (ps_ret (pe_and (pe_cmpR op_isN (pv 5) pe_non (nomark _)) (pe_one (pe_cmpR (op_eqD hr.units) (pv 3) (pe_lst pa_nil) (nomark _)))))) pss_nil)
        (pss_cons (ps_if (PW.pt (pw_or (pt_not (pt_val (pe_callB (id := "isinstance") call_isi (by rfl) T.z_isinstance (by decide +kernel) (pa_cons (pv 5) (pa_cons (pe_bltn (v := .ty "tuple") (u := .type "tuple") (by rfl) T.z_tuple (by decide +kernel) rfl) pa_nil))))) (pw_or (pt_cmpR op_ne (pe_callB (id := "len") call_len_seq (by rfl) T.z_len (by decide +kernel) (pa_cons (pv 5) pa_nil)) pe_int (nomark _)) (pw_or1 (pt_cmpR (op_neD hr.units) (pe_call (ok_common T) (hr.mono (by decide)) rfl T.m_common T.F_common.kp T.b_common .nil passL (pa_cons (pv 1) (pa_cons (pv 0) pa_nil))) (pv 5) (nomark _)))))) (pss_one (ps_ret pe_bl)) pss_nil)
        (pss_cons (ps_setLc (i := 6) (own := [("_law_place", 4)]) (g := gName 4) rfl sc_law_right.nd rfl rfl (sw_true rfl rfl rfl (by decide +kernel)) (pi_list (pe_op op_cat (pv 2) (pe_call (ok_law_keys T) (hr.mono (by decide)) rfl T.m_law_keys T.F_law_keys.kp T.b_law_keys .nil pass0 (pa_cons (pe_lst (pa_cons (pv 5) pa_nil)) pa_nil)))) (blkOk_by (own := [("_law_place", 4)]) (N := ["_law_first", "_law_second", "_law_keys_here", "_law_both", "_law_place", "_law_told_here", "_law_inner", "_law_item"]) (sc := defScope s_law_right) (by decide +kernel)) (fun _ _ _ _ _ => (pg_name (i := 4) sc_law_right.nd rfl (Or.inl rfl))) (fun _ _ _ _ _ => (pts_one (pt_val (pe_call (ok_law_has T) (hr.mono (by decide)) rfl T.m_law_has T.F_law_has.kp T.b_law_has .nil pass0 (pa_cons (pv 5) (pa_cons (pv 4) pa_nil)))))) (fun _ _ _ _ _ => (pv 4)))
        (pss_one (ps_ret (pe_and (pe_cmpR (op_neD hr.units) (pv 6) (pe_lst pa_nil) (nomark _)) (pe_one (pe_call (ok_law_same T) (hr.mono (by decide)) rfl T.m_law_same T.F_law_same.kp T.b_law_same .nil pass0 (pa_cons (pv 5) (pa_cons (pv 0) (pa_cons (pv 1) pa_nil)))))))))))))))), ?_⟩
    have eS : ¬ spanO (some (spD s')) = false := by rw [spanO_ok, os]; decide
    have eT : ¬ spanO (some (spD t)) = false := by rw [spanO_ok, ot]; decide
    refine ⟨_, rfl, _, rfl, (by show 2 ≤ sizeLine; decide), fun l hl => ?_⟩
    have s1 := same_new (o := .lst [.ref p, .ref q]) hl
    refine ⟨l, [(p, s'), (q, t)], rfl, SqL.of upd_same, fun z hz => ?_, (by show 2 ≤ 3; decide), fun f H1 s2 hf hfl => ?_⟩
    · simp only [List.mem_cons, List.not_mem_nil, or_false] at hz
      rcases hz with rfl | rfl
      · exact same_t s1 hp
      · exact same_t s1 hq
    have s12 := s1.trans s2
    have klen := keysL_len [s', t]
    have ksize : (keysL [s', t]).length < sizeLine := Nat.lt_of_le_of_lt klen (by show 13 < sizeLine; decide)
    refine ⟨_, rfl, f, rfl, ⟨_, SqL.of hfl⟩, fun D hD => ?_⟩
    refine lc_acc walk_list hD (fun H' k => k.seq (SqL.of hfl)) (fun i => (((keysL [s', t]).take i).filter fun k => inS s' k && inS t k).map V.int) rfl (fun i _ => ?_) ?_ ?_
    · rw [List.length_map]
      exact Nat.lt_of_le_of_lt (List.length_filter_le _ _) (Nat.lt_of_le_of_lt (by rw [List.length_take]; exact Nat.min_le_right _ _) ksize)
    · rintro i z H2 hi hz s3 R S r1 r2
      have hz' : ((keysL [s', t]).map V.int)[i]? = some z := hz
      rw [List.getElem?_map] at hz'
      obtain ⟨n, hn, rfl⟩ := Option.map_eq_some_iff.mp hz'
      have s13 := s12.trans s3
      refine ⟨rfl, _, rfl, _, rfl, p, s', n, rfl, same_t s13 hp, _, rfl, ?_⟩
      have step : ∀ bb, bb = (inS s' n && inS t n) → (((keysL [s', t]).take (i + 1)).filter fun k => inS s' k && inS t k).map V.int = if bb = true then (((keysL [s', t]).take i).filter fun k => inS s' k && inS t k).map V.int ++ [V.int n] else (((keysL [s', t]).take i).filter fun k => inS s' k && inS t k).map V.int := by
        rintro bb rfl
        rw [List.take_add_one, hn]
        cases e : (inS s' n && inS t n) <;> simp [e]
      cases e1 : inS s' n with
      | false => exact iteF (iteF (r2 _ (by rw [step false (by rw [e1]; rfl)]; rfl) (Same.refl _)))
      | true =>
        refine iteT ⟨_, rfl, _, rfl, q, t, n, rfl, same_t s13 hq, _, rfl, ?_⟩
        cases e2 : inS t n with
        | false => exact iteF (r2 _ (by rw [step false (by rw [e1, e2]; rfl)]; rfl) (Same.refl _))
        | true => exact iteT ⟨_, rfl, r1 _ _ (by rw [step true (by rw [e1, e2]; rfl)]; rfl) (Same.refl _)⟩
    intro H2 s3 hl2
    have hb : H2 D = some (.lst ((bothL s' t).map V.int)) := by
      rw [hl2]
      show some (HO.lst ((((keysL [s', t]).take ((keysL [s', t]).map V.int).length).filter fun k => inS s' k && inS t k).map V.int)) = _
      rw [List.length_map, List.take_length]
      rfl
    have s23 := s3
    have hf2 := s3 _ _ hfl
    have s13 := s12.trans s3
    refine ⟨_, rfl, f, rfl, ⟨_, SqL.of hf2⟩, for_list (K := K) (a := f) (xs := (keysL [s', t]).map V.int) (fun i σ H' => ∃ v4 v5 : Option V, σ = [some (.ref p), some (.ref q), some (.ref f), some (.ref D), v4, v5, none, none] ∧ Same H2 H') ⟨none, none, rfl, Same.refl _⟩ (fun i σ H' _ ⟨_, _, _, k⟩ => k.seq (SqL.of hf2)) ?_ ?_⟩
    · rintro i y σ H3 hi ⟨v4, v5, rfl, s4⟩
      rw [List.getElem?_map] at hi
      obtain ⟨n, hn, rfl⟩ := Option.map_eq_some_iff.mp hi
      have s14 := s13.trans s4
      refine ⟨_, rfl, _, rfl, .ref p, .int n, some (spD s'), some (.int n), rfl, vd_sp (same_t s14 hp), .dat (.int n) rfl (fun _ e => nomatch e), (fun e => absurd e eS), (fun _ e => nomatch e), fun s0 k0 e0 _ e1 H4 s5 => ?_⟩
      obtain rfl : s' = s0 := spD_inj (Option.some.inj e0)
      cases e1
      have s15 := s14.trans s5
      refine ⟨_, rfl, _, rfl, rfl, rfl, .ref q, .int n, some (spD t), some (.int n), rfl, vd_sp (same_t s15 hq), .dat (.int n) rfl (fun _ e => nomatch e), (fun e => absurd e eT), (fun _ e => nomatch e), fun s0 k0 e0 _ e1 H5 s6 => ?_⟩
      obtain rfl : t = s0 := spD_inj (Option.some.inj e0)
      cases e1
      have s16 := s15.trans s6
      refine ⟨(by show 2 ≤ sizeLine; decide), fun l1 hl1 => ?_⟩
      have s7 := same_new (o := .lst [.bl (inS s' n), .bl (inS t n)]) hl1
      refine ⟨_, rfl, l1, rfl, ⟨_, SqL.of upd_same⟩, fun D1 hD1 => ?_⟩
      refine lc_acc walk_list hD1 (fun H' k => SqL.of (k _ _ upd_same)) (fun _ => []) rfl (fun _ _ => by show 0 < sizeLine; decide) ?_ ?_
      · rintro j x H10 hj hx s10 R S r1 r2
        obtain ⟨b, rfl⟩ : ∃ b, x = V.bl b := by
          have hm := List.mem_of_getElem? hx
          simp only [List.mem_cons, List.not_mem_nil, or_false] at hm
          rcases hm with rfl | rfl
          all_goals exact ⟨_, rfl⟩
        exact ⟨rfl, _, rfl, _, _, _, _, _, rfl, .ty _, .base (.bl b), kit_ty (r := true) (by decide +kernel), _, rfl, iteF (r2 _ rfl (Same.refl _))⟩
      intro H6 s8 hl6
      refine ⟨Nat.zero_le _, fun z hz => ?_⟩
      have s9 := same_new (o := .lst []) hz
      refine ⟨_, _, .lst (SqL.of (s9 _ _ hl6)) .nil, .lst (SqL.of upd_same) .nil, shaped_nil, shaped_nil, _, rfl, iteF ?_⟩
      have s17 := s16.trans (s7.trans (s8.trans s9))
      refine ⟨_, rfl, _, rfl, _, rfl, p, s', n, rfl, same_t s17 hp, _, rfl, _, rfl, q, t, n, rfl, same_t s17 hq, (by show 2 ≤ sizeLine; decide), fun l2 hl3 => ?_⟩
      have s18 := same_new (o := .lst [.bl (inS s' n), .bl (inS t n)]) hl3
      have sh : SeqAt.shaped (.list [.bool (inS s' n), .bool (inS t n)]) = true := by
        cases inS s' n <;> cases inS t n <;> decide +kernel
      have ee : PyData.eqv (.list [.bool (inS s' n), .bool (inS t n)]) (.list [.bool (inS s' n), .bool (inS t n)]) = true := by
        cases inS s' n <;> cases inS t n <;> decide +kernel
      refine ⟨_, _, .lst (SqL.of (s18 _ _ (s9 _ _ (s8 _ _ upd_same)))) (dpAll_bls [inS s' n, inS t n]), .lst (SqL.of upd_same) (dpAll_bls [inS s' n, inS t n]), sh, sh, _, rfl, ?_⟩
      have ne : (!PyData.eqv (.list [.bool (inS s' n), .bool (inS t n)]) (.list [.bool (inS s' n), .bool (inS t n)])) = false := by rw [ee]; rfl
      exact iteFe ne ⟨_, _, rfl, s4.trans (s5.trans (s6.trans (s7.trans (s8.trans (s9.trans s18)))))⟩
    · rintro σ H3 ⟨v4, v5, rfl, s4⟩
      have s14 := s13.trans s4
      have hvp : ∀ {H'}, Same H H' → VD K H' (.ref p) (some (spD s')) := fun k => vd_sp (same_t k hp)
      have hvq : ∀ {H'}, Same H H' → VD K H' (.ref q) (some (spD t)) := fun k => vd_sp (same_t k hq)
      have dpb : ∀ {H'}, H' D = some (.lst ((bothL s' t).map V.int)) → Dp K H' (.ref D) (.list ((bothL s' t).map PyData.int)) := fun h => .lst (SqL.of h) (dpAll_ints _)
      have shb : SeqAt.shaped (.list ((bothL s' t).map PyData.int)) = true := shaped_list (n := 0) (by decide) (fun d hd => by
        obtain ⟨i, _, rfl⟩ := List.mem_map.mp hd
        exact ⟨rfl, by simp [PyData.depth]⟩)
      have eqb : PyData.eqv (.list ((bothL s' t).map PyData.int)) (.list []) = !okS (comS s' t) := by
        rw [eqv_nil, List.isEmpty_map, both_ok]
      refine ⟨_, rfl, _, rfl, .ref p, .ref q, some (spD s'), some (spD t), rfl, hvp s14, hvq s14, (fun e => absurd e eS), (fun _ e => absurd e eT), fun s0 t0 e0 _ e1 _ H4 s5 => ?_⟩
      obtain rfl : s' = s0 := spD_inj (Option.some.inj e0)
      obtain rfl : t = t0 := spD_inj (Option.some.inj e1)
      have s15 := s14.trans s5
      refine ⟨_, _, _, _, _, rfl, .ty _, .base (.bl _), kit_ty (r := true) (by decide +kernel), _, rfl, iteF ?_⟩
      refine ⟨_, rfl, _, rfl, .ref p, .ref q, some (spD s'), some (spD t), rfl, hvp s15, hvq s15, (fun e => absurd e eS), (fun _ e => absurd e eT), fun s0 t0 e0 _ e1 _ H5 s6 => ?_⟩
      obtain rfl : s' = s0 := spD_inj (Option.some.inj e0)
      obtain rfl : t = t0 := spD_inj (Option.some.inj e1)
      have s16 := s15.trans s6
      have s46 := s4.trans (s5.trans s6)
      refine ⟨_, rfl, Nat.zero_le _, fun z hz => ?_⟩
      have s7 := same_new (o := .lst []) hz
      refine ⟨_, _, dpb (s7 _ _ (s46 _ _ hb)), .lst (SqL.of upd_same) .nil, shb, shaped_nil, rfl, _, rfl, ?_⟩
      rw [eqb, Bool.not_not, dec_bl, beq_self_eq_true]
      refine iteF ?_
      have s17 := s16.trans s7
      refine ⟨_, rfl, _, rfl, .ref p, .ref q, some (spD s'), some (spD t), rfl, hvp s17, hvq s17, (fun e => absurd e eS), (fun _ e => absurd e eT), fun s0 t0 e0 _ e1 _ => ?_⟩
      obtain rfl : s' = s0 := spD_inj (Option.some.inj e0)
      obtain rfl : t = t0 := spD_inj (Option.some.inj e1)
      have hb7 := s7 _ _ (s46 _ _ hb)
      refine ⟨fun ec c H6 s8 hc hcc => ?_, fun ec H6 s8 => ?_⟩
      · have s18 := s17.trans s8
        refine ⟨_, rfl, rfl, _, rfl, iteF ?_⟩
        refine ⟨_, rfl, Nat.zero_le _, fun z hz => ?_⟩
        have s9 := same_new (o := .lst []) hz
        refine ⟨_, _, dpb (s9 _ _ (s8 _ _ hb7)), .lst (SqL.of upd_same) .nil, shb, shaped_nil, _, rfl, ?_⟩
        rw [eqb, ec]
        refine iteF ?_
        have s19 := s18.trans s9
        have hc9 := s9 _ _ hcc
        refine ⟨_, rfl, _, _, _, _, _, rfl, .ty _, .base (.tup hc9), kit_ty (r := true) (by decide +kernel), _, rfl, iteF ?_⟩
        refine ⟨_, rfl, c, _, rfl, .inr (SqT.of hc9), rfl, _, rfl, iteF ?_⟩
        refine ⟨_, rfl, _, rfl, .ref q, .ref p, some (spD t), some (spD s'), rfl, hvq s19, hvp s19, (fun e => absurd e eT), (fun _ e => absurd e eS), fun s0 t0 e0 _ e1 _ => ⟨fun _ c2 H7 s10 hc2 hcc2 => ?_, fun e => ?_⟩⟩
        · obtain rfl : t = s0 := spD_inj (Option.some.inj e0)
          obtain rfl : s' = t0 := spD_inj (Option.some.inj e1)
          rw [comS_comm] at hcc2
          have hc10 := s10 _ _ hc9
          refine ⟨_, rfl, _, _, .tup (SqT.of hcc2) (dpAll_spV _), .tup (SqT.of hc10) (dpAll_spV _), shaped_sp _, shaped_sp _, _, rfl, ?_⟩
          have ne : (!PyData.eqv (spD (comS s' t)) (spD (comS s' t))) = false := by rw [eqv_sp]; rfl
          refine iteFe ne ?_
          have s20 := s19.trans s10
          have hf7 : H7 f = some (.lst ((keysL [s', t]).map V.int)) := s10 _ _ (s9 _ _ (s8 _ _ (s7 _ _ (s46 _ _ hf2))))
          refine ⟨_, rfl, _, rfl, (by show 1 ≤ sizeLine; decide), fun l3 hl3 => ?_⟩
          have s11 := same_new (o := .lst [.ref c]) hl3
          refine ⟨l3, [(c, comS s' t)], rfl, SqL.of upd_same, (fun z hz => by
            obtain rfl := List.mem_singleton.mp hz
            exact SqT.of (s11 _ _ hc10)), (by show 1 ≤ 3; decide), fun f2 H8 s12' hf2' hfl2 => ?_⟩
          have s13' := s11.trans s12'
          refine ⟨f, f2, _, _, rfl, rfl, s13' _ _ hf7, hfl2, ?_, fun g hg => ?_⟩
          · rw [List.length_map, List.length_map]
            have := keysL_len [comS s' t]
            have h13 : (13 : Nat) + 7 ≤ sizeLine := by decide
            exact Nat.le_trans (Nat.add_le_add klen this) h13
          have s14' := same_new (o := .lst ((keysL [s', t]).map V.int ++ (keysL [comS s' t]).map V.int)) hg
          refine ⟨g, rfl, ⟨_, SqL.of upd_same⟩, fun D3 hD3 => ?_⟩
          have hcg := s14' _ _ (s13' _ _ hc10)
          refine lc_acc walk_list hD3 (fun H' k => SqL.of (k _ _ upd_same)) (fun i => (((keysL [s', t] ++ keysL [comS s' t]).take i).filter fun k => inS (comS s' t) k).map V.int) rfl (fun i _ => ?_) ?_ ?_
          · rw [List.length_map]
            refine Nat.lt_of_le_of_lt (List.length_filter_le _ _) (Nat.lt_of_le_of_lt (by rw [List.length_take]; exact Nat.min_le_right _ _) ?_)
            rw [List.length_append]
            have := keysL_len [comS s' t]
            exact Nat.lt_of_le_of_lt (Nat.add_le_add klen this) (by show 13 + 7 < sizeLine; decide)
          · rintro i z H9 hi hz k9 R S r1 r2
            have hz' : ((keysL [s', t] ++ keysL [comS s' t]).map V.int)[i]? = some z := by
              rw [List.map_append]
              exact hz
            rw [List.getElem?_map] at hz'
            obtain ⟨n, hn, rfl⟩ := Option.map_eq_some_iff.mp hz'
            refine ⟨rfl, _, rfl, _, rfl, c, comS s' t, n, rfl, SqT.of (k9 _ _ hcg), _, rfl, ?_⟩
            cases e : inS (comS s' t) n with
            | false => exact iteF (r2 _ (by rw [List.take_add_one, hn]; simp [e]) (Same.refl _))
            | true => exact iteT ⟨_, rfl, r1 _ _ (by rw [List.take_add_one, hn]; simp [e]) (Same.refl _)⟩
          intro H9 k9 hl9
          refine ⟨_, rfl, Nat.zero_le _, fun z hz => ?_⟩
          have k10 := same_new (o := .lst []) hz
          have hin : H9 D3 = some (.lst (((keysL [s', t] ++ keysL [comS s' t]).filter fun k => inS (comS s' t) k).map V.int)) := by
            rw [hl9]
            show some (HO.lst ((((keysL [s', t] ++ keysL [comS s' t]).take ((keysL [s', t]).map V.int ++ (keysL [comS s' t]).map V.int).length).filter fun k => inS (comS s' t) k).map V.int)) = _
            rw [← List.map_append, List.length_map, List.take_length]
          have shi : SeqAt.shaped (.list (((keysL [s', t] ++ keysL [comS s' t]).filter fun k => inS (comS s' t) k).map PyData.int)) = true := shaped_list (n := 0) (by decide) (fun d hd => by
            obtain ⟨i, _, rfl⟩ := List.mem_map.mp hd
            exact ⟨rfl, by simp [PyData.depth]⟩)
          refine ⟨_, _, .lst (SqL.of (k10 _ _ hin)) (dpAll_ints _), .lst (SqL.of upd_same) .nil, shi, shaped_nil, _, rfl, ?_⟩
          have ne : PyData.eqv (.list (((keysL [s', t] ++ keysL [comS s' t]).filter fun k => inS (comS s' t) k).map PyData.int)) (.list []) = false := by
            rw [eqv_nil, List.isEmpty_map]
            obtain ⟨k0, hk0, hi0⟩ := key_in s' t ec
            have : k0 ∈ (keysL [s', t] ++ keysL [comS s' t]).filter fun k => inS (comS s' t) k := List.mem_filter.mpr ⟨List.mem_append_left _ hk0, hi0⟩
            cases eb : (keysL [s', t] ++ keysL [comS s' t]).filter fun k => inS (comS s' t) k with
            | nil => rw [eb] at this; cases this
            | cons a r => rfl
          rw [ne]
          have sf := s20.trans (s13'.trans (s14'.trans (k9.trans k10)))
          exact iteT ⟨_, rfl, _, rfl, _, rfl, c, p, q, s', t, rfl, SqT.of (k10 _ _ (k9 _ _ hcg)), same_t sf hp, same_t sf hq, fun H11 k11 => k _ (sf.trans k11)⟩
        · obtain rfl : t = s0 := spD_inj (Option.some.inj e0)
          obtain rfl : s' = t0 := spD_inj (Option.some.inj e1)
          rw [comS_comm, ec] at e
          cases e
      · have s18 := s17.trans s8
        refine ⟨_, rfl, rfl, _, rfl, iteT (iteT ?_)⟩
        refine ⟨_, rfl, rfl, _, rfl, iteT ⟨_, rfl, Nat.zero_le _, fun z hz => ?_⟩⟩
        have s9 := same_new (o := .lst []) hz
        refine ⟨_, _, dpb (s9 _ _ (s8 _ _ hb7)), .lst (SqL.of upd_same) .nil, shb, shaped_nil, ?_⟩
        rw [eqb, ec]
        exact k _ (s18.trans s9)
theorem ok_law (T : Txt K mg) : FnOk P w K mg base CX0 8 T.f_law T.fd_law ["_law_script"] (sp_law K) := by
  refine T.F_law.ok sc_law (fun vs H Q E h => ?_) (fun cdv A outer s H vs Q E hr h => ?_)
  · obtain ⟨a, ns, rfl, _⟩ := h
    rfl
  · obtain ⟨a, ns, rfl, hS, hlen, k⟩ := h
    refine ⟨_, (pss_cons (ps_for PassesOwn.never rfl (pi_range1 rfl T.z_range (pa_cons (pe_callB (id := "max") (call_max2 rfl) (by rfl) T.z_max (by decide +kernel) (pa_cons pe_int (pa_cons (pe_callB (id := "min") (call_min2 rfl) (by rfl) T.z_min (by decide +kernel) (pa_cons pe_int (pa_cons (pe_callB (id := "len") call_len_seq (by rfl) T.z_len (by decide +kernel) (pa_cons (pv 0) pa_nil)) pa_nil))) pa_nil))) pa_nil)) (pg_name (i := 1) sc_law.nd rfl (Or.inl rfl))
          (pss_cons (ps_set (i := 2) sc_law.nd rfl (Or.inl rfl) (pe_call (ok_law_box T) (hr.mono (by decide)) rfl T.m_law_box T.F_law_box.kp T.b_law_box .nil pass0 (pa_cons (pe_call (ok_law_cell T) (hr.mono (by decide)) rfl T.m_law_cell T.F_law_cell.kp T.b_law_cell .nil pass0 (pa_cons (pv 0) (pa_cons (pv 1) pa_nil))) pa_nil)))
        (pss_cons (ps_par (i := 3) (j := 4) (by rfl) sc_law.nd rfl rfl (by decide) rfl rfl (pa_cons (pe_call (ok_law_span T) (hr.mono (by decide)) rfl T.m_law_span T.F_law_span.kp T.b_law_span .nil pass0 (pa_cons (pv 2) pa_nil)) (pa_cons (pe_call (ok_law_span T) (hr.mono (by decide)) rfl T.m_law_span T.F_law_span.kp T.b_law_span .nil pass0 (pa_cons (pv 2) pa_nil)) pa_nil)) (by rfl))
        (pss_cons (ps_if (pt_not (pt_val (pe_call (ok_law_right T) hr rfl T.m_law_right T.F_law_right.kp T.b_law_right .nil pass0 (pa_cons (pv 3) (pa_cons (pv 4) pa_nil))))) (pss_one (ps_ret pe_bl)) pss_nil)
        (pss_cons (ps_set (i := 5) sc_law.nd rfl (Or.inl rfl) (pe_ix ix_list (pe_lst (pa_cons pe_non (pa_cons pe_int (pa_cons (pe_lst (pa_cons pe_int (pa_cons pe_int pa_nil))) (pa_cons (pe_tup (pa_cons pe_int (pa_cons pe_int pa_nil))) (pa_cons (pe_tup (pa_cons pe_int (pa_cons pe_int pa_nil))) (pa_cons (pe_tup (pa_cons pe_int (pa_cons pe_bl pa_nil))) (pa_cons pe_str (pa_cons (pe_tup pa_nil) pa_nil))))))))) (pe_call (ok_law_take T) (hr.mono (by decide)) rfl T.m_law_take T.F_law_take.kp T.b_law_take .nil pass0 (pa_cons (pv 2) (pa_cons pe_int pa_nil))) (fun _ _ => rfl)))
        (pss_cons (ps_set (i := 6) sc_law.nd rfl (Or.inl rfl) (pe_ix ix_list (pe_lst (pa_cons pe_str (pa_cons pe_dnewK (pa_cons (pe_tup (pa_cons pe_int (pa_cons pe_int pa_nil))) pa_nil)))) (pe_call (ok_law_take T) (hr.mono (by decide)) rfl T.m_law_take T.F_law_take.kp T.b_law_take .nil pass0 (pa_cons (pv 2) (pa_cons pe_int pa_nil))) (fun _ _ => rfl)))
        (pss_cons (ps_for PassesOwn.never rfl (pi_range1 rfl T.z_range (pa_cons pe_int pa_nil)) (pg_name (i := 7) sc_law.nd rfl (Or.inl rfl))
          (pss_one (ps_if (PW.pt (pw_or (pt_cmpR (op_neS hr.units) (pe_call (ok_law_told T) hr rfl T.m_law_told T.F_law_told.kp T.b_law_told .nil pass0 (pa_cons (pv 7) (pa_cons (pv 5) (pa_cons (pv 6) pa_nil)))) (pe_lst (pa_cons pe_str (pa_cons (pv 5) pa_nil))) (nomark _)) (pw_or1 (pt_cmpR (op_neS hr.units) (pe_call (ok_law_told T) hr rfl T.m_law_told T.F_law_told.kp T.b_law_told .nil pass0 (pa_cons (pv 7) (pa_cons (pv 6) (pa_cons (pv 5) pa_nil)))) (pe_lst (pa_cons pe_str (pa_cons (pv 6) pa_nil))) (nomark _))))) (pss_one (ps_ret pe_bl)) pss_nil)))
        (pss_cons (ps_for PassesOwn.never rfl (pi_list (pe_lst (pa_cons pe_int (pa_cons pe_int pa_nil)))) (pg_name (i := 7) sc_law.nd rfl (Or.inl rfl))
          (pss_one (ps_if (pt_cmpR (op_neS hr.units) (pe_call (ok_law_told T) hr rfl T.m_law_told T.F_law_told.kp T.b_law_told .nil pass0 (pa_cons (pv 7) (pa_cons (pv 3) (pa_cons (pv 5) pa_nil)))) (pe_lst (pa_cons pe_str (pa_cons (pv 5) pa_nil))) (nomark _)) (pss_one (ps_ret pe_bl)) pss_nil)))
        (pss_cons (ps_set (i := 8) sc_law.nd rfl (Or.inl rfl) (pe_ix ix_list (pe_lst (pa_cons pe_non (pa_cons pe_bl (pa_cons pe_str (pa_cons (pe_tup (pa_cons pe_int (pa_cons pe_int pa_nil))) (pa_cons (pe_lst (pa_cons pe_int pa_nil)) pa_nil)))))) (pe_call (ok_law_take T) (hr.mono (by decide)) rfl T.m_law_take T.F_law_take.kp T.b_law_take .nil pass0 (pa_cons (pv 2) (pa_cons pe_int pa_nil))) (fun _ _ => rfl)))
        (pss_one (ps_if (pt_cmpR (op_neS hr.units) (pe_call (ok_law_told T) hr rfl T.m_law_told T.F_law_told.kp T.b_law_told .nil pass0 (pa_cons pe_int (pa_cons (pv 3) (pa_cons (pv 8) pa_nil)))) (pe_lst (pa_cons pe_str (pa_cons (pv 8) pa_nil))) (nomark _)) (pss_one (ps_ret pe_bl)) pss_nil)))))))))))
        (pss_one (ps_ret pe_bl))), ?_⟩
    refine ⟨_, rfl, a, _, rfl, .inl hS, _, _, rfl, _, _, rfl, _, rfl, ?_, ?_, for_range (fun i σ H' => ∃ v1 v2 v3 v4 v5 v6 v7 v8, σ = [some (.ref a), v1, v2, v3, v4, v5, v6, v7, v8] ∧ Same H H') ⟨none, none, none, none, none, none, none, none, rfl, Same.refl H⟩ ?_ ?_⟩
    · repeat' split
      all_goals omega
    · repeat' split
      all_goals omega
    · rintro i σ H1 hi ⟨v1, v2, v3, v4, v5, v6, v7, v8, rfl, s1⟩
      refine ⟨_, rfl, _, rfl, a, ns, _, rfl, s1.seq hS, (by omega), fun z => ⟨z, rfl, fun p o hp bx => ?_⟩⟩
      have B : BoxIn H1 (upd H1 p o) p 0 := ⟨same_new hp, hp, bx⟩
      refine ⟨_, rfl, H1, p, 0, rfl, B, by decide, fun H2 H3 v s2 B3 hv => ?_⟩
      obtain ⟨x, sx, rfl, hx, ox⟩ := hv
      refine ⟨_, rfl, H2, p, _, rfl, B3, by decide, fun H4 H5 v s4 B5 hv => ?_⟩
      obtain ⟨y, sy, rfl, hy, oy⟩ := hv
      refine ⟨_, _, rfl, ?_⟩
      have hx4 := s4 _ _ hx
      refine ⟨_, rfl, _, rfl, x, y, sx, sy, rfl, SqT.of (B5.same _ _ hx4), SqT.of (B5.same _ _ hy), ox, oy, fun H6 s6 => ⟨_, rfl, iteF ?_⟩⟩
      have B6 := B5.keep s6
      -- bad
      refine ⟨(by show 2 ≤ sizeLine; decide), fun t1 ht1 => ?_⟩
      have b1 := B6.new (o := .lst [.int 1, .int 2]) ht1
      refine ⟨(by show 2 ≤ sizeLine; decide), fun t2 ht2 => ?_⟩
      have b2 := b1.1.new (o := .tup [.int 2, .int 2]) ht2
      refine ⟨(by show 2 ≤ sizeLine; decide), fun t3 ht3 => ?_⟩
      have b3 := b2.1.new (o := .tup [.int 3, .int 2]) ht3
      refine ⟨(by show 2 ≤ sizeLine; decide), fun t4 ht4 => ?_⟩
      have b4 := b3.1.new (o := .tup [.int 1, .bl true]) ht4
      refine ⟨(by show 0 ≤ sizeLine; decide), fun t5 ht5 => ?_⟩
      have b5 := b4.1.new (o := .tup []) ht5
      refine ⟨(by show 8 ≤ sizeLine; decide), fun l hl => ?_⟩
      have b6 := b5.1.new (o := .lst [.non, .int 5, .ref t1, .ref t2, .ref t3, .ref t4, .str "1..2", .ref t5]) hl
      refine ⟨_, rfl, _, p, _, 8, rfl, b6.1, by decide, by decide, by decide, fun z7 H7 z70 z71 B7 => ?_⟩
      obtain ⟨bad, hv, hm⟩ := atI_in (xs := [V.non, .int 5, .ref t1, .ref t2, .ref t3, .ref t4, .str "1..2", .ref t5]) z70 z71
      refine ⟨l, _, z7, bad, rfl, rfl, SqL.of (B7.same _ _ upd_same), hv, ?_⟩
      have hbad : ∃ G, Same H4 G ∧ BoxIn G H7 p 21 ∧ ∃ ob, VD K G bad ob ∧ spanO ob = false ∧ sureV bad = true := by
        have m6 := b6.2
        have m5 := b5.2.trans m6
        have m4 := b4.2.trans m5
        have m3 := b3.2.trans m4
        have m2 := b2.2.trans m3
        refine ⟨_, b1.2.trans m2, B7, ?_⟩
        simp only [List.mem_cons, List.not_mem_nil, or_false] at hm
        rcases hm with rfl | rfl | rfl | rfl | rfl | rfl | rfl | rfl
        · exact ⟨_, .dat .non (by decide +kernel) (fun _ e => nomatch e), rfl, rfl⟩
        · exact ⟨_, .dat (.int 5) (by decide +kernel) (fun _ e => nomatch e), rfl, rfl⟩
        · exact ⟨some (.list [.int 1, .int 2]), .dat (.lst (SqL.of (m2 _ _ upd_same)) (.cons (.int 1) (.cons (.int 2) .nil))) (by decide +kernel) (fun _ e => nomatch e), rfl, rfl⟩
        · exact ⟨some (.tuple [.int 2, .int 2]), .dat (.tup (SqT.of (m3 _ _ upd_same)) (.cons (.int 2) (.cons (.int 2) .nil))) (by decide +kernel) (fun _ e => nomatch e), by decide +kernel, rfl⟩
        · exact ⟨some (.tuple [.int 3, .int 2]), .dat (.tup (SqT.of (m4 _ _ upd_same)) (.cons (.int 3) (.cons (.int 2) .nil))) (by decide +kernel) (fun _ e => nomatch e), by decide +kernel, rfl⟩
        · exact ⟨some (.tuple [.int 1, .bool true]), .dat (.tup (SqT.of (m5 _ _ upd_same)) (.cons (.int 1) (.cons (.bl true) .nil))) (by decide +kernel) (fun _ e => nomatch e), by decide +kernel, rfl⟩
        · exact ⟨_, .dat (.str _) (by decide +kernel) (fun s e => by cases e; decide +kernel), rfl, rfl⟩
        · exact ⟨some (.tuple []), .dat (.tup (SqT.of (m6 _ _ upd_same)) .nil) (by decide +kernel) (fun _ e => nomatch e), by decide +kernel, rfl⟩
      obtain ⟨G7, sG7, C7, ob, vb, nb, sb⟩ := hbad
      clear b1 b2 b3 b4 b5 b6 B7 hm hv
      -- worse
      intro u1 hu1
      have c1 := C7.new (o := .dK []) hu1
      refine ⟨(by show 2 ≤ sizeLine; decide), fun u2 hu2 => ?_⟩
      have c2 := c1.1.new (o := .tup [.int 9, .int 1]) hu2
      refine ⟨(by show 3 ≤ sizeLine; decide), fun l3 hl3 => ?_⟩
      have c3 := c2.1.new (o := .lst [.str "..", .ref u1, .ref u2]) hl3
      refine ⟨_, rfl, _, p, _, 3, rfl, c3.1, by decide, by decide, by decide, fun z8 H8 z80 z81 B8 => ?_⟩
      obtain ⟨worse, hv, hm⟩ := atI_in (xs := [V.str "..", .ref u1, .ref u2]) z80 z81
      refine ⟨l3, _, z8, worse, rfl, rfl, SqL.of (B8.same _ _ upd_same), hv, ?_⟩
      have hworse : ∃ G, Same G7 G ∧ BoxIn G H8 p 22 ∧ ∃ ow, VD K G worse ow ∧ spanO ow = false ∧ sureV worse = true := by
        have m3 := c3.2
        have m2 := c2.2.trans m3
        refine ⟨_, c1.2.trans m2, B8, ?_⟩
        simp only [List.mem_cons, List.not_mem_nil, or_false] at hm
        rcases hm with rfl | rfl | rfl
        · exact ⟨_, .dat (.str _) (by decide +kernel) (fun s e => by cases e; decide +kernel), rfl, rfl⟩
        · exact ⟨none, .dic (m2 _ _ upd_same), rfl, rfl⟩
        · exact ⟨some (.tuple [.int 9, .int 1]), .dat (.tup (SqT.of (m3 _ _ upd_same)) (.cons (.int 9) (.cons (.int 1) .nil))) (by decide +kernel) (fun _ e => nomatch e), by decide +kernel, rfl⟩
      obtain ⟨G8, sG8, C8, ow, vw, nw, sw⟩ := hworse
      clear c1 c2 c3 B8 hm hv
      have vb8 := vb.mono sG8
      have hx8 := sG8 _ _ (sG7 _ _ hx4)
      have sH : Same H G8 := s1.trans (s2.trans (s4.trans (sG7.trans sG8)))
      -- what is told of a raise, compared
      refine ⟨3, rfl, by decide, by decide, for_range (fun j σ H' => ∃ v7 : Option V, σ = [some (.ref a), some (.int (0 + (i : Int))), some (.ref p), some (.ref x), some (.ref y), some bad, some worse, v7, v8] ∧ Same H8 H') ⟨v7, rfl, Same.refl _⟩ ?_ ?_⟩
      · rintro j σ H9 hj ⟨v7, rfl, s9⟩
        have k9 := C8.same.trans s9
        refine ⟨_, rfl, _, rfl, _, rfl, _, bad, worse, ob, ow, rfl, vb8.mono k9, vw.mono k9, .inl ⟨nb, fun f Ha sa hf hfl => ?_⟩⟩
        refine ⟨_, rfl, (by show 2 ≤ sizeLine; decide), fun g hg => ?_⟩
        have sg := same_new (o := .lst [.str "span", bad]) hg
        refine ⟨f, g, [.str "span", bad], rfl, rfl, SqL.of (sg _ _ hfl), SqL.of upd_same, sure2 sb, _, rfl, iteF ?_⟩
        have k10 := k9.trans (sa.trans sg)
        refine ⟨_, rfl, _, rfl, _, rfl, _, worse, bad, ow, ob, rfl, vw.mono k10, vb8.mono k10, .inl ⟨nw, fun f2 Hb sb2 hf2 hfl2 => ?_⟩⟩
        refine ⟨_, rfl, (by show 2 ≤ sizeLine; decide), fun g2 hg2 => ?_⟩
        have sg2 := same_new (o := .lst [.str "span", worse]) hg2
        refine ⟨f2, g2, [.str "span", worse], rfl, rfl, SqL.of (sg2 _ _ hfl2), SqL.of upd_same, sure2 sw, _, rfl, iteF ?_⟩
        exact ⟨_, rfl, s9.trans (sa.trans (sg.trans (sb2.trans sg2)))⟩
      · rintro σ H9 ⟨v7, rfl, s9⟩
        have k9 := C8.same.trans s9
        have okx : spanO (some (spD sx)) = true := by rw [spanO_ok]; exact ox
        refine ⟨(by show 2 ≤ sizeLine; decide), fun l5 hl5 => ?_⟩
        have s10 := same_new (o := .lst [.int 1, .int 2]) hl5
        refine ⟨l5, rfl, ⟨_, SqL.of upd_same⟩, for_list (K := K) (a := l5) (xs := [.int 1, .int 2]) (fun j σ H' => ∃ v7 : Option V, σ = [some (.ref a), some (.int (0 + (i : Int))), some (.ref p), some (.ref x), some (.ref y), some bad, some worse, v7, v8] ∧ Same (upd H9 l5 (.lst [.int 1, .int 2])) H') ⟨v7, rfl, Same.refl _⟩ (fun j σ H' _ ⟨_, _, k⟩ => SqL.of (k _ _ upd_same)) ?_ ?_⟩
        · rintro j w σ Hc hj ⟨v7, rfl, sc⟩
          have k11 := k9.trans (s10.trans sc)
          obtain ⟨n, rfl, hn⟩ : ∃ n : Int, w = V.int n ∧ n ≠ 0 := by
            have hm := List.mem_of_getElem? hj
            simp only [List.mem_cons, List.not_mem_nil, or_false] at hm
            rcases hm with rfl | rfl
            all_goals exact ⟨_, rfl, by decide⟩
          refine ⟨_, rfl, _, rfl, _, rfl, n, .ref x, bad, _, ob, rfl, vd_sp (SqT.of (k11 _ _ hx8)), vb8.mono k11, .inr (.inl ⟨okx, hn, nb, fun f Ha sa hf hfl => ?_⟩)⟩
          refine ⟨_, rfl, (by show 2 ≤ sizeLine; decide), fun g hg => ?_⟩
          have sg := same_new (o := .lst [.str "span", bad]) hg
          refine ⟨f, g, [.str "span", bad], rfl, rfl, SqL.of (sg _ _ hfl), SqL.of upd_same, sure2 sb, _, rfl, iteF ?_⟩
          exact ⟨_, rfl, sc.trans (sa.trans sg)⟩
        · rintro σ Hc ⟨v7, rfl, sc⟩
          have C11 := C8.keep (s9.trans (s10.trans sc))
          -- strange
          refine ⟨(by show 2 ≤ sizeLine; decide), fun t1 ht1 => ?_⟩
          have d1 := C11.new (o := .tup [.int 1, .int 2]) ht1
          refine ⟨(by show 1 ≤ sizeLine; decide), fun t2 ht2 => ?_⟩
          have d2 := d1.1.new (o := .lst [.int 1]) ht2
          refine ⟨(by show 5 ≤ sizeLine; decide), fun l6 hl6 => ?_⟩
          have d3 := d2.1.new (o := .lst [.non, .bl true, .str "1", .ref t1, .ref t2]) hl6
          refine ⟨_, rfl, _, p, _, 5, rfl, d3.1, by decide, by decide, by decide, fun z9 Hd z90 z91 Bd => ?_⟩
          obtain ⟨st, hv, hm⟩ := atI_in (xs := [V.non, .bl true, .str "1", .ref t1, .ref t2]) z90 z91
          refine ⟨l6, _, z9, st, rfl, rfl, SqL.of (Bd.same _ _ upd_same), hv, ?_⟩
          have hst : ∃ G, Same G8 G ∧ BoxIn G Hd p 23 ∧ ∃ os, VD K G st os ∧ intO os = false ∧ sureV st = true := by
            have m3 := d3.2
            have m2 := d2.2.trans m3
            refine ⟨_, d1.2.trans m2, Bd, ?_⟩
            simp only [List.mem_cons, List.not_mem_nil, or_false] at hm
            rcases hm with rfl | rfl | rfl | rfl | rfl
            · exact ⟨_, .dat .non (by decide +kernel) (fun _ e => nomatch e), rfl, rfl⟩
            · exact ⟨_, .dat (.bl true) (by decide +kernel) (fun _ e => nomatch e), rfl, rfl⟩
            · exact ⟨_, .dat (.str _) (by decide +kernel) (fun s e => by cases e; decide +kernel), rfl, rfl⟩
            · exact ⟨some (.tuple [.int 1, .int 2]), .dat (.tup (SqT.of (m2 _ _ upd_same)) (.cons (.int 1) (.cons (.int 2) .nil))) (by decide +kernel) (fun _ e => nomatch e), rfl, rfl⟩
            · exact ⟨some (.list [.int 1]), .dat (.lst (SqL.of (m3 _ _ upd_same)) (.cons (.int 1) .nil)) (by decide +kernel) (fun _ e => nomatch e), rfl, rfl⟩
          obtain ⟨G9, sG9, C9, os, vs', ns', ss'⟩ := hst
          refine ⟨_, rfl, _, rfl, 0, .ref x, st, _, os, rfl, vd_sp (SqT.of (C9.same _ _ (sG9 _ _ hx8))), vs'.mono C9.same, .inr (.inr ⟨okx, rfl, ns', fun f Ha sa hf hfl => ?_⟩)⟩
          refine ⟨_, rfl, (by show 2 ≤ sizeLine; decide), fun g hg => ?_⟩
          have sg := same_new (o := .lst [.str "key", st]) hg
          refine ⟨f, g, [.str "key", st], rfl, rfl, SqL.of (sg _ _ hfl), SqL.of upd_same, sure2 ss', _, rfl, iteF ?_⟩
          exact ⟨_, _, _, _, _, _, _, _, rfl, sH.trans (sG9.trans (C9.same.trans (sa.trans sg)))⟩
    · rintro σ H1 ⟨v1, v2, v3, v4, v5, v6, v7, v8, rfl, s1⟩
      exact k H1
end
theorem all_mk {l : PySem.W.OpenLaw} {w : World} {K : PySem.W.Frag} {h : Heap} {mg : Str → Option Value} {fa f0 f1 f2 f3 f4 f5 f6 f7 f8 f9 f10 f11 f12 f13 f14 f15 f16 f17 f18 f19 : Addr} {C_PartsError : Addr} {C_InvalidKey : Addr} {C_InvalidSpan : Addr} (X : K.In h) (G : h.Ns mainGlobals mg) (hfa : mg "law" = some (.ref fa))
    {od0 an0 : Option Addr} {sl0 : Array (Option Value)} {oc0 kV0 dc0 pm0 cd0 ct0 : Value}
    (a0 : PySem.W.findIn K (.ref C_InvalidKey) "__init__" = some (some (.ref f0))) (l0 : K.lookup f0 = some ⟨oc0, od0, .func (PySem.W.fnOf "__init__" "InvalidKey.__init__" (defArgs s_InvalidKey_init) (defBody s_InvalidKey_init) (defScope s_InvalidKey_init) .none kV0 dc0 pm0 an0 cd0 ct0), sl0⟩) (c0 : PySem.W.codeIn K cd0 "InvalidKey.__init__" = true) (k0 : PySem.W.keepIn K (.ref f0) = true)
    {od1 an1 : Option Addr} {sl1 : Array (Option Value)} {oc1 kV1 dc1 pm1 cd1 ct1 : Value}
    (a1 : PySem.W.findIn K (.ref C_InvalidSpan) "__init__" = some (some (.ref f1))) (l1 : K.lookup f1 = some ⟨oc1, od1, .func (PySem.W.fnOf "__init__" "InvalidSpan.__init__" (defArgs s_InvalidSpan_init) (defBody s_InvalidSpan_init) (defScope s_InvalidSpan_init) .none kV1 dc1 pm1 an1 cd1 ct1), sl1⟩) (c1 : PySem.W.codeIn K cd1 "InvalidSpan.__init__" = true) (k1 : PySem.W.keepIn K (.ref f1) = true)
    {od2 an2 : Option Addr} {sl2 : Array (Option Value)} {oc2 kV2 dc2 pm2 cd2 ct2 : Value}
    (a2 : PySem.W.nsIn K mainGlobals "is_integer" = some (some (.ref f2))) (l2 : K.lookup f2 = some ⟨oc2, od2, .func (PySem.W.fnOf "is_integer" "is_integer" (defArgs s_is_integer) (defBody s_is_integer) (defScope s_is_integer) .none kV2 dc2 pm2 an2 cd2 ct2), sl2⟩) (c2 : PySem.W.codeIn K cd2 "is_integer" = true) (k2 : PySem.W.keepIn K (.ref f2) = true)
    {od3 an3 : Option Addr} {sl3 : Array (Option Value)} {oc3 kV3 dc3 pm3 cd3 ct3 : Value}
    (a3 : PySem.W.nsIn K mainGlobals "is_span" = some (some (.ref f3))) (l3 : K.lookup f3 = some ⟨oc3, od3, .func (PySem.W.fnOf "is_span" "is_span" (defArgs s_is_span) (defBody s_is_span) (defScope s_is_span) .none kV3 dc3 pm3 an3 cd3 ct3), sl3⟩) (c3 : PySem.W.codeIn K cd3 "is_span" = true) (k3 : PySem.W.keepIn K (.ref f3) = true)
    {od4 an4 : Option Addr} {sl4 : Array (Option Value)} {oc4 kV4 dc4 pm4 cd4 ct4 : Value}
    (a4 : PySem.W.nsIn K mainGlobals "is_limit" = some (some (.ref f4))) (l4 : K.lookup f4 = some ⟨oc4, od4, .func (PySem.W.fnOf "is_limit" "is_limit" (defArgs s_is_limit) (defBody s_is_limit) (defScope s_is_limit) .none kV4 dc4 pm4 an4 cd4 ct4), sl4⟩) (c4 : PySem.W.codeIn K cd4 "is_limit" = true) (k4 : PySem.W.keepIn K (.ref f4) = true)
    {od5 an5 : Option Addr} {sl5 : Array (Option Value)} {oc5 kV5 dc5 pm5 cd5 ct5 : Value}
    (a5 : PySem.W.nsIn K mainGlobals "require_span" = some (some (.ref f5))) (l5 : K.lookup f5 = some ⟨oc5, od5, .func (PySem.W.fnOf "require_span" "require_span" (defArgs s_require_span) (defBody s_require_span) (defScope s_require_span) .none kV5 dc5 pm5 an5 cd5 ct5), sl5⟩) (c5 : PySem.W.codeIn K cd5 "require_span" = true) (k5 : PySem.W.keepIn K (.ref f5) = true)
    {od6 an6 : Option Addr} {sl6 : Array (Option Value)} {oc6 kV6 dc6 pm6 cd6 ct6 : Value}
    (a6 : PySem.W.nsIn K mainGlobals "require_key" = some (some (.ref f6))) (l6 : K.lookup f6 = some ⟨oc6, od6, .func (PySem.W.fnOf "require_key" "require_key" (defArgs s_require_key) (defBody s_require_key) (defScope s_require_key) .none kV6 dc6 pm6 an6 cd6 ct6), sl6⟩) (c6 : PySem.W.codeIn K cd6 "require_key" = true) (k6 : PySem.W.keepIn K (.ref f6) = true)
    {od7 an7 : Option Addr} {sl7 : Array (Option Value)} {oc7 kV7 dc7 pm7 cd7 ct7 : Value}
    (a7 : PySem.W.nsIn K mainGlobals "in_span" = some (some (.ref f7))) (l7 : K.lookup f7 = some ⟨oc7, od7, .func (PySem.W.fnOf "in_span" "in_span" (defArgs s_in_span) (defBody s_in_span) (defScope s_in_span) .none kV7 dc7 pm7 an7 cd7 ct7), sl7⟩) (c7 : PySem.W.codeIn K cd7 "in_span" = true) (k7 : PySem.W.keepIn K (.ref f7) = true)
    {od8 an8 : Option Addr} {sl8 : Array (Option Value)} {oc8 kV8 dc8 pm8 cd8 ct8 : Value}
    (a8 : PySem.W.nsIn K mainGlobals "meet" = some (some (.ref f8))) (l8 : K.lookup f8 = some ⟨oc8, od8, .func (PySem.W.fnOf "meet" "meet" (defArgs s_meet) (defBody s_meet) (defScope s_meet) .none kV8 dc8 pm8 an8 cd8 ct8), sl8⟩) (c8 : PySem.W.codeIn K cd8 "meet" = true) (k8 : PySem.W.keepIn K (.ref f8) = true)
    {od9 an9 : Option Addr} {sl9 : Array (Option Value)} {oc9 kV9 dc9 pm9 cd9 ct9 : Value}
    (a9 : PySem.W.nsIn K mainGlobals "common" = some (some (.ref f9))) (l9 : K.lookup f9 = some ⟨oc9, od9, .func (PySem.W.fnOf "common" "common" (defArgs s_common) (defBody s_common) (defScope s_common) .none kV9 dc9 pm9 an9 cd9 ct9), sl9⟩) (c9 : PySem.W.codeIn K cd9 "common" = true) (k9 : PySem.W.keepIn K (.ref f9) = true)
    {od10 an10 : Option Addr} {sl10 : Array (Option Value)} {oc10 kV10 dc10 pm10 cd10 ct10 : Value}
    (a10 : PySem.W.nsIn K mainGlobals "_law_cell" = some (some (.ref f10))) (l10 : K.lookup f10 = some ⟨oc10, od10, .func (PySem.W.fnOf "_law_cell" "_law_cell" (defArgs s_law_cell) (defBody s_law_cell) (defScope s_law_cell) .none kV10 dc10 pm10 an10 cd10 ct10), sl10⟩) (c10 : PySem.W.codeIn K cd10 "_law_cell" = true) (k10 : PySem.W.keepIn K (.ref f10) = true)
    {od11 an11 : Option Addr} {sl11 : Array (Option Value)} {oc11 kV11 dc11 pm11 cd11 ct11 : Value}
    (a11 : PySem.W.nsIn K mainGlobals "_law_box" = some (some (.ref f11))) (l11 : K.lookup f11 = some ⟨oc11, od11, .func (PySem.W.fnOf "_law_box" "_law_box" (defArgs s_law_box) (defBody s_law_box) (defScope s_law_box) .none kV11 dc11 pm11 an11 cd11 ct11), sl11⟩) (c11 : PySem.W.codeIn K cd11 "_law_box" = true) (k11 : PySem.W.keepIn K (.ref f11) = true)
    {od12 an12 : Option Addr} {sl12 : Array (Option Value)} {oc12 kV12 dc12 pm12 cd12 ct12 : Value}
    (a12 : PySem.W.nsIn K mainGlobals "_law_take" = some (some (.ref f12))) (l12 : K.lookup f12 = some ⟨oc12, od12, .func (PySem.W.fnOf "_law_take" "_law_take" (defArgs s_law_take) (defBody s_law_take) (defScope s_law_take) .none kV12 dc12 pm12 an12 cd12 ct12), sl12⟩) (c12 : PySem.W.codeIn K cd12 "_law_take" = true) (k12 : PySem.W.keepIn K (.ref f12) = true)
    {od13 an13 : Option Addr} {sl13 : Array (Option Value)} {oc13 kV13 dc13 pm13 cd13 ct13 : Value}
    (a13 : PySem.W.nsIn K mainGlobals "_law_has" = some (some (.ref f13))) (l13 : K.lookup f13 = some ⟨oc13, od13, .func (PySem.W.fnOf "_law_has" "_law_has" (defArgs s_law_has) (defBody s_law_has) (defScope s_law_has) .none kV13 dc13 pm13 an13 cd13 ct13), sl13⟩) (c13 : PySem.W.codeIn K cd13 "_law_has" = true) (k13 : PySem.W.keepIn K (.ref f13) = true)
    {od14 an14 : Option Addr} {sl14 : Array (Option Value)} {oc14 kV14 dc14 pm14 cd14 ct14 : Value}
    (a14 : PySem.W.nsIn K mainGlobals "_law_span" = some (some (.ref f14))) (l14 : K.lookup f14 = some ⟨oc14, od14, .func (PySem.W.fnOf "_law_span" "_law_span" (defArgs s_law_span) (defBody s_law_span) (defScope s_law_span) .none kV14 dc14 pm14 an14 cd14 ct14), sl14⟩) (c14 : PySem.W.codeIn K cd14 "_law_span" = true) (k14 : PySem.W.keepIn K (.ref f14) = true)
    {od15 an15 : Option Addr} {sl15 : Array (Option Value)} {oc15 kV15 dc15 pm15 cd15 ct15 : Value}
    (a15 : PySem.W.nsIn K mainGlobals "_law_keys" = some (some (.ref f15))) (l15 : K.lookup f15 = some ⟨oc15, od15, .func (PySem.W.fnOf "_law_keys" "_law_keys" (defArgs s_law_keys) (defBody s_law_keys) (defScope s_law_keys) .none kV15 dc15 pm15 an15 cd15 ct15), sl15⟩) (c15 : PySem.W.codeIn K cd15 "_law_keys" = true) (k15 : PySem.W.keepIn K (.ref f15) = true)
    {od16 an16 : Option Addr} {sl16 : Array (Option Value)} {oc16 kV16 dc16 pm16 cd16 ct16 : Value}
    (a16 : PySem.W.nsIn K mainGlobals "_law_told" = some (some (.ref f16))) (l16 : K.lookup f16 = some ⟨oc16, od16, .func (PySem.W.fnOf "_law_told" "_law_told" (defArgs s_law_told) (defBody s_law_told) (defScope s_law_told) .none kV16 dc16 pm16 an16 cd16 ct16), sl16⟩) (c16 : PySem.W.codeIn K cd16 "_law_told" = true) (k16 : PySem.W.keepIn K (.ref f16) = true)
    {od17 an17 : Option Addr} {sl17 : Array (Option Value)} {oc17 kV17 dc17 pm17 cd17 ct17 : Value}
    (a17 : PySem.W.nsIn K mainGlobals "_law_right" = some (some (.ref f17))) (l17 : K.lookup f17 = some ⟨oc17, od17, .func (PySem.W.fnOf "_law_right" "_law_right" (defArgs s_law_right) (defBody s_law_right) (defScope s_law_right) .none kV17 dc17 pm17 an17 cd17 ct17), sl17⟩) (c17 : PySem.W.codeIn K cd17 "_law_right" = true) (k17 : PySem.W.keepIn K (.ref f17) = true)
    {od18 an18 : Option Addr} {sl18 : Array (Option Value)} {oc18 kV18 dc18 pm18 cd18 ct18 : Value}
    (a18 : PySem.W.nsIn K mainGlobals "_law_same" = some (some (.ref f18))) (l18 : K.lookup f18 = some ⟨oc18, od18, .func (PySem.W.fnOf "_law_same" "_law_same" (defArgs s_law_same) (defBody s_law_same) (defScope s_law_same) .none kV18 dc18 pm18 an18 cd18 ct18), sl18⟩) (c18 : PySem.W.codeIn K cd18 "_law_same" = true) (k18 : PySem.W.keepIn K (.ref f18) = true)
    {od19 an19 : Option Addr} {sl19 : Array (Option Value)} {oc19 kV19 dc19 pm19 cd19 ct19 : Value}
    (a19 : PySem.W.nsIn K mainGlobals "law" = some (some (.ref f19))) (l19 : K.lookup f19 = some ⟨oc19, od19, .func (PySem.W.fnOf "law" "law" (defArgs s_law) (defBody s_law) (defScope s_law) .none kV19 dc19 pm19 an19 cd19 ct19), sl19⟩) (c19 : PySem.W.codeIn K cd19 "law" = true) (k19 : PySem.W.keepIn K (.ref f19) = true)
    (g_PartsError : PySem.W.nsIn K mainGlobals "PartsError" = some (some (.ref C_PartsError)))
    (g_InvalidKey : PySem.W.nsIn K mainGlobals "InvalidKey" = some (some (.ref C_InvalidKey)))
    {nm_InvalidKey qn_InvalidKey : Str} {N_InvalidKey : Addr} {bs_InvalidKey bm_InvalidKey : List Value} {sn_InvalidKey : List Str} {sub_InvalidKey : List Value} {ab_InvalidKey : Bool} {col_InvalidKey : Option Bool} {dd_InvalidKey : Option Addr} {m0_InvalidKey m1_InvalidKey m2_InvalidKey m3_InvalidKey m5_InvalidKey : Option Value}
    (xL_InvalidKey : K.lookup C_InvalidKey = some (excClassObj nm_InvalidKey qn_InvalidKey C_InvalidKey N_InvalidKey bs_InvalidKey bm_InvalidKey true sn_InvalidKey sub_InvalidKey ab_InvalidKey col_InvalidKey dd_InvalidKey m0_InvalidKey m1_InvalidKey m2_InvalidKey m3_InvalidKey m5_InvalidKey "ValueError.__new__")) (rB_InvalidKey : PySem.HandSPX.refsVE bm_InvalidKey = true)
    (sa_InvalidKey : PySem.W.findIn K (.ref C_InvalidKey) "__setattr__" = some (some (.builtin "object.__setattr__"))) (ga_InvalidKey : PySem.W.findIn K (.ref C_InvalidKey) "__getattribute__" = some (some (.builtin "BaseException.__getattribute__"))) (gg_InvalidKey : PySem.W.findIn K (.ref C_InvalidKey) "__getattr__" = some none) (nb_InvalidKey : PySem.W.findIn K (.ref C_InvalidKey) "value" = some none)
    (t1_InvalidKey : PySem.W.typeIn K (.ref f0) = some (.type "function")) (kC_InvalidKey : PySem.W.keepIn K (.ref C_InvalidKey) = true) (eC_InvalidKey : PySem.W.subIn K (.ref C_InvalidKey) (.type "BaseException") = some true) (tC_InvalidKey : PySem.W.typeIn K (.ref C_InvalidKey) = some (.type "type")) (hC_InvalidKey : PySem.W.hasDictIn K C_InvalidKey = true)
    (g_InvalidSpan : PySem.W.nsIn K mainGlobals "InvalidSpan" = some (some (.ref C_InvalidSpan)))
    {nm_InvalidSpan qn_InvalidSpan : Str} {N_InvalidSpan : Addr} {bs_InvalidSpan bm_InvalidSpan : List Value} {sn_InvalidSpan : List Str} {sub_InvalidSpan : List Value} {ab_InvalidSpan : Bool} {col_InvalidSpan : Option Bool} {dd_InvalidSpan : Option Addr} {m0_InvalidSpan m1_InvalidSpan m2_InvalidSpan m3_InvalidSpan m5_InvalidSpan : Option Value}
    (xL_InvalidSpan : K.lookup C_InvalidSpan = some (excClassObj nm_InvalidSpan qn_InvalidSpan C_InvalidSpan N_InvalidSpan bs_InvalidSpan bm_InvalidSpan true sn_InvalidSpan sub_InvalidSpan ab_InvalidSpan col_InvalidSpan dd_InvalidSpan m0_InvalidSpan m1_InvalidSpan m2_InvalidSpan m3_InvalidSpan m5_InvalidSpan "ValueError.__new__")) (rB_InvalidSpan : PySem.HandSPX.refsVE bm_InvalidSpan = true)
    (sa_InvalidSpan : PySem.W.findIn K (.ref C_InvalidSpan) "__setattr__" = some (some (.builtin "object.__setattr__"))) (ga_InvalidSpan : PySem.W.findIn K (.ref C_InvalidSpan) "__getattribute__" = some (some (.builtin "BaseException.__getattribute__"))) (gg_InvalidSpan : PySem.W.findIn K (.ref C_InvalidSpan) "__getattr__" = some none) (nb_InvalidSpan : PySem.W.findIn K (.ref C_InvalidSpan) "value" = some none)
    (t1_InvalidSpan : PySem.W.typeIn K (.ref f1) = some (.type "function")) (kC_InvalidSpan : PySem.W.keepIn K (.ref C_InvalidSpan) = true) (eC_InvalidSpan : PySem.W.subIn K (.ref C_InvalidSpan) (.type "BaseException") = some true) (tC_InvalidSpan : PySem.W.typeIn K (.ref C_InvalidSpan) = some (.type "type")) (hC_InvalidSpan : PySem.W.hasDictIn K C_InvalidSpan = true)
    (e_InvalidSpan_InvalidSpan : PySem.W.exmOne K (.ref C_InvalidSpan) (.ref C_InvalidSpan) = some true)
    (e_InvalidKey_InvalidSpan : PySem.W.exmOne K (.ref C_InvalidKey) (.ref C_InvalidSpan) = some false)
    (e_InvalidKey_InvalidKey : PySem.W.exmOne K (.ref C_InvalidKey) (.ref C_InvalidKey) = some true)
    (z_isinstance : PySem.W.nsIn K mainGlobals "isinstance" = some none)
    (z_int : PySem.W.nsIn K mainGlobals "int" = some none)
    (z_bool : PySem.W.nsIn K mainGlobals "bool" = some none)
    (z_tuple : PySem.W.nsIn K mainGlobals "tuple" = some none)
    (z_len : PySem.W.nsIn K mainGlobals "len" = some none)
    (z_max : PySem.W.nsIn K mainGlobals "max" = some none)
    (z_min : PySem.W.nsIn K mainGlobals "min" = some none)
    (z_range : PySem.W.nsIn K mainGlobals "range" = some none)
    : ∃ fd : FuncData, (∀ (s : Shared) (v : Value), BindsTo s fd ⟨[v], []⟩ [("_law_script", v)]) ∧ ∀ base : Heap, K.In base → base.Ns mainGlobals mg → FnOk l.prog w K mg base CX0 8 fa fd ["_law_script"] (sp_law K) := by
  have e := hfa.symm.trans (PySem.W.mg_of X G a19)
  cases e
  let T : Txt K mg := {
    f_InvalidKey_init := f0, fd_InvalidKey_init := _, F_InvalidKey_init := fun_mk (st := s_InvalidKey_init) l0 c0 k0, b_InvalidKey_init := (fun_mk (st := s_InvalidKey_init) l0 c0 k0).binds (ps := ["self", "value"]) fun _ _ _ _ _ _ us hl => match us, hl with | [_, _], _ => rfl,
    f_InvalidSpan_init := f1, fd_InvalidSpan_init := _, F_InvalidSpan_init := fun_mk (st := s_InvalidSpan_init) l1 c1 k1, b_InvalidSpan_init := (fun_mk (st := s_InvalidSpan_init) l1 c1 k1).binds (ps := ["self", "value"]) fun _ _ _ _ _ _ us hl => match us, hl with | [_, _], _ => rfl,
    f_is_integer := f2, fd_is_integer := _, F_is_integer := fun_mk (st := s_is_integer) l2 c2 k2, b_is_integer := (fun_mk (st := s_is_integer) l2 c2 k2).binds (ps := ["value"]) fun _ _ _ _ _ _ us hl => match us, hl with | [_], _ => rfl, m_is_integer := PySem.W.mg_of X G a2,
    f_is_span := f3, fd_is_span := _, F_is_span := fun_mk (st := s_is_span) l3 c3 k3, b_is_span := (fun_mk (st := s_is_span) l3 c3 k3).binds (ps := ["value"]) fun _ _ _ _ _ _ us hl => match us, hl with | [_], _ => rfl, m_is_span := PySem.W.mg_of X G a3,
    f_is_limit := f4, fd_is_limit := _, F_is_limit := fun_mk (st := s_is_limit) l4 c4 k4, b_is_limit := (fun_mk (st := s_is_limit) l4 c4 k4).binds (ps := ["value"]) fun _ _ _ _ _ _ us hl => match us, hl with | [_], _ => rfl, m_is_limit := PySem.W.mg_of X G a4,
    f_require_span := f5, fd_require_span := _, F_require_span := fun_mk (st := s_require_span) l5 c5 k5, b_require_span := (fun_mk (st := s_require_span) l5 c5 k5).binds (ps := ["value"]) fun _ _ _ _ _ _ us hl => match us, hl with | [_], _ => rfl, m_require_span := PySem.W.mg_of X G a5,
    f_require_key := f6, fd_require_key := _, F_require_key := fun_mk (st := s_require_key) l6 c6 k6, b_require_key := (fun_mk (st := s_require_key) l6 c6 k6).binds (ps := ["value"]) fun _ _ _ _ _ _ us hl => match us, hl with | [_], _ => rfl, m_require_key := PySem.W.mg_of X G a6,
    f_in_span := f7, fd_in_span := _, F_in_span := fun_mk (st := s_in_span) l7 c7 k7, b_in_span := (fun_mk (st := s_in_span) l7 c7 k7).binds (ps := ["span", "key"]) fun _ _ _ _ _ _ us hl => match us, hl with | [_, _], _ => rfl, m_in_span := PySem.W.mg_of X G a7,
    f_meet := f8, fd_meet := _, F_meet := fun_mk (st := s_meet) l8 c8 k8, b_meet := (fun_mk (st := s_meet) l8 c8 k8).binds (ps := ["one", "other"]) fun _ _ _ _ _ _ us hl => match us, hl with | [_, _], _ => rfl, m_meet := PySem.W.mg_of X G a8,
    f_common := f9, fd_common := _, F_common := fun_mk (st := s_common) l9 c9 k9, b_common := (fun_mk (st := s_common) l9 c9 k9).binds (ps := ["one", "other"]) fun _ _ _ _ _ _ us hl => match us, hl with | [_, _], _ => rfl, m_common := PySem.W.mg_of X G a9,
    f_law_cell := f10, fd_law_cell := _, F_law_cell := fun_mk (st := s_law_cell) l10 c10 k10, b_law_cell := (fun_mk (st := s_law_cell) l10 c10 k10).binds (ps := ["_law_script", "_law_k"]) fun _ _ _ _ _ _ us hl => match us, hl with | [_, _], _ => rfl, m_law_cell := PySem.W.mg_of X G a10,
    f_law_box := f11, fd_law_box := _, F_law_box := fun_mk (st := s_law_box) l11 c11 k11, b_law_box := (fun_mk (st := s_law_box) l11 c11 k11).binds (ps := ["_law_cell_here"]) fun _ _ _ _ _ _ us hl => match us, hl with | [_], _ => rfl, m_law_box := PySem.W.mg_of X G a11,
    f_law_take := f12, fd_law_take := _, F_law_take := fun_mk (st := s_law_take) l12 c12 k12, b_law_take := (fun_mk (st := s_law_take) l12 c12 k12).binds (ps := ["_law_box_here", "_law_many"]) fun _ _ _ _ _ _ us hl => match us, hl with | [_, _], _ => rfl, m_law_take := PySem.W.mg_of X G a12,
    f_law_has := f13, fd_law_has := _, F_law_has := fun_mk (st := s_law_has) l13 c13 k13, b_law_has := (fun_mk (st := s_law_has) l13 c13 k13).binds (ps := ["_law_piece", "_law_place"]) fun _ _ _ _ _ _ us hl => match us, hl with | [_, _], _ => rfl, m_law_has := PySem.W.mg_of X G a13,
    f_law_span := f14, fd_law_span := _, F_law_span := fun_mk (st := s_law_span) l14 c14 k14, b_law_span := (fun_mk (st := s_law_span) l14 c14 k14).binds (ps := ["_law_box_here"]) fun _ _ _ _ _ _ us hl => match us, hl with | [_], _ => rfl, m_law_span := PySem.W.mg_of X G a14,
    f_law_keys := f15, fd_law_keys := _, F_law_keys := fun_mk (st := s_law_keys) l15 c15 k15, b_law_keys := (fun_mk (st := s_law_keys) l15 c15 k15).binds (ps := ["_law_spans"]) fun _ _ _ _ _ _ us hl => match us, hl with | [_], _ => rfl, m_law_keys := PySem.W.mg_of X G a15,
    f_law_told := f16, fd_law_told := _, F_law_told := fun_mk (st := s_law_told) l16 c16 k16, b_law_told := (fun_mk (st := s_law_told) l16 c16 k16).binds (ps := ["_law_way", "_law_first", "_law_second"]) fun _ _ _ _ _ _ us hl => match us, hl with | [_, _, _], _ => rfl, m_law_told := PySem.W.mg_of X G a16,
    f_law_right := f17, fd_law_right := _, F_law_right := fun_mk (st := s_law_right) l17 c17 k17, b_law_right := (fun_mk (st := s_law_right) l17 c17 k17).binds (ps := ["_law_first", "_law_second"]) fun _ _ _ _ _ _ us hl => match us, hl with | [_, _], _ => rfl, m_law_right := PySem.W.mg_of X G a17,
    f_law_same := f18, fd_law_same := _, F_law_same := fun_mk (st := s_law_same) l18 c18 k18, b_law_same := (fun_mk (st := s_law_same) l18 c18 k18).binds (ps := ["_law_told_here", "_law_first", "_law_second"]) fun _ _ _ _ _ _ us hl => match us, hl with | [_, _, _], _ => rfl, m_law_same := PySem.W.mg_of X G a18,
    f_law := fa, fd_law := _, F_law := fun_mk (st := s_law) l19 c19 k19, b_law := (fun_mk (st := s_law) l19 c19 k19).binds (ps := ["_law_script"]) fun _ _ _ _ _ _ us hl => match us, hl with | [_], _ => rfl, m_law := PySem.W.mg_of X G a19,
    k_common_0_other_one := ⟨fun us ws h1 h2 => by
      match us, ws, h1, h2 with
      | [], [_, _], _, _ => rfl, fun {vs us zs ws} h1 h2 r1 r2 => by
      match vs, us, zs, ws, h1, h2, r1, r2 with
      | [], [], [_, _], [_, _], _, _, .nil, .cons b0 (.cons b1 .nil) => exact .cons b1 (.cons b0 .nil)⟩,
    k_in_span_0_key_span := ⟨fun us ws h1 h2 => by
      match us, ws, h1, h2 with
      | [], [_, _], _, _ => rfl, fun {vs us zs ws} h1 h2 r1 r2 => by
      match vs, us, zs, ws, h1, h2, r1, r2 with
      | [], [], [_, _], [_, _], _, _, .nil, .cons b0 (.cons b1 .nil) => exact .cons b1 (.cons b0 .nil)⟩,
    C_PartsError := C_PartsError, g_PartsError := PySem.W.mg_of X G g_PartsError,
    C_InvalidKey := C_InvalidKey, g_InvalidKey := PySem.W.mg_of X G g_InvalidKey,
    x_InvalidKey := ⟨⟨_, _, _, _, _, _, _, _, _, _, _, _, _, _, _, xL_InvalidKey, rB_InvalidKey⟩, sa_InvalidKey, eC_InvalidKey, tC_InvalidKey, kC_InvalidKey⟩, y_InvalidKey := ⟨ga_InvalidKey, gg_InvalidKey, eC_InvalidKey, hC_InvalidKey⟩, n_InvalidKey := nb_InvalidKey, i_InvalidKey := a0, t_InvalidKey := t1_InvalidKey,
    C_InvalidSpan := C_InvalidSpan, g_InvalidSpan := PySem.W.mg_of X G g_InvalidSpan,
    x_InvalidSpan := ⟨⟨_, _, _, _, _, _, _, _, _, _, _, _, _, _, _, xL_InvalidSpan, rB_InvalidSpan⟩, sa_InvalidSpan, eC_InvalidSpan, tC_InvalidSpan, kC_InvalidSpan⟩, y_InvalidSpan := ⟨ga_InvalidSpan, gg_InvalidSpan, eC_InvalidSpan, hC_InvalidSpan⟩, n_InvalidSpan := nb_InvalidSpan, i_InvalidSpan := a1, t_InvalidSpan := t1_InvalidSpan,
    e_InvalidSpan_InvalidSpan := e_InvalidSpan_InvalidSpan,
    e_InvalidKey_InvalidSpan := e_InvalidKey_InvalidSpan,
    e_InvalidKey_InvalidKey := e_InvalidKey_InvalidKey,
    z_isinstance := PySem.W.mg_none_of X G z_isinstance,
    z_int := PySem.W.mg_none_of X G z_int,
    z_bool := PySem.W.mg_none_of X G z_bool,
    z_tuple := PySem.W.mg_none_of X G z_tuple,
    z_len := PySem.W.mg_none_of X G z_len,
    z_max := PySem.W.mg_none_of X G z_max,
    z_min := PySem.W.mg_none_of X G z_min,
    z_range := PySem.W.mg_none_of X G z_range }
  exact ⟨T.fd_law, fun s v => .of_eq rfl, fun base _ _ => ok_law T⟩
theorem walk {l : PySem.W.OpenLaw} {q : Program} {loose : List Str} {XP : (Str → Option Value) → Heap → Prop} {YP : World → Heap → Prop} {d : DefRec} {K : Params → PySem.W.Frag} (hn : l.most = some 63) (hdf : d.params.defaults = [])
    (hY : ∀ (w : World) (h : Heap), YP w h → (K w.params).In h)
    (F : ∀ (w : World) (mg : Str → Option Value) (fa : Addr) (h : Heap), (K w.params).In h → h.Ns mainGlobals mg → mg d.name = some (.ref fa) →
      ∃ fd : FuncData, (∀ (s : Shared) (u : Value), BindsTo s fd ⟨[u], []⟩ [("_law_script", u)]) ∧ ∀ base : Heap, (K w.params).In base → base.Ns mainGlobals mg → FnOk l.prog w (K w.params) mg base CX0 8 fa fd ["_law_script"] (sp_law (K w.params))) :
    PySem.W.WalkO q loose XP YP l.row.toRowW d [] (fun f vs => PySem.call f vs) :=
  L2.walk_of (n := 63) (k := 8) (x := "_law_script") (CX := fun _ => CX0) (sp := fun w => sp_law (K w.params)) hn (by decide) hdf ⟨rfl, by decide, by decide⟩ hY F (fun _ _ a ns hl _ hS => ⟨a, ns, rfl, hS, hl, fun _ => rfl⟩) fun _ _ _ _ _ z => z
end My
open PySem PySem.W PyProof.Rows
set_option maxRecDepth 100000 in
set_option maxHeartbeats 0 in
theorem PySem.Challenge.cw_hungparts_k02_spans_laid_over_one_anothe_holds : PySem.Challenge.rw_hungparts_k02_spans_laid_over_one_anothe.Holds := by
  w_on; o_law; k_head; (case hw => w_witness2)
  k_fill
  refine My.walk (l := PySem.Challenge.rw_hungparts_k02_spans_laid_over_one_anothe) rfl rfl (fun w h Y => PySem.W.kIn_of Y) ?F
  case F =>
    intro w mg fa h KX G hmg
    refine' My.all_mk KX G hmg ?a0 ?l0 ?c0 ?k0 ?a1 ?l1 ?c1 ?k1 ?a2 ?l2 ?c2 ?k2 ?a3 ?l3 ?c3 ?k3 ?a4 ?l4 ?c4 ?k4 ?a5 ?l5 ?c5 ?k5 ?a6 ?l6 ?c6 ?k6 ?a7 ?l7 ?c7 ?k7 ?a8 ?l8 ?c8 ?k8 ?a9 ?l9 ?c9 ?k9 ?a10 ?l10 ?c10 ?k10 ?a11 ?l11 ?c11 ?k11 ?a12 ?l12 ?c12 ?k12 ?a13 ?l13 ?c13 ?k13 ?a14 ?l14 ?c14 ?k14 ?a15 ?l15 ?c15 ?k15 ?a16 ?l16 ?c16 ?k16 ?a17 ?l17 ?c17 ?k17 ?a18 ?l18 ?c18 ?k18 ?a19 ?l19 ?c19 ?k19 ?g_PartsError ?g_InvalidKey ?xL_InvalidKey ?rB_InvalidKey ?sa_InvalidKey ?ga_InvalidKey ?gg_InvalidKey ?nb_InvalidKey ?t1_InvalidKey ?kC_InvalidKey ?eC_InvalidKey ?tC_InvalidKey ?hC_InvalidKey ?g_InvalidSpan ?xL_InvalidSpan ?rB_InvalidSpan ?sa_InvalidSpan ?ga_InvalidSpan ?gg_InvalidSpan ?nb_InvalidSpan ?t1_InvalidSpan ?kC_InvalidSpan ?eC_InvalidSpan ?tC_InvalidSpan ?hC_InvalidSpan ?e_InvalidSpan_InvalidSpan ?e_InvalidKey_InvalidSpan ?e_InvalidKey_InvalidKey ?z_isinstance ?z_int ?z_bool ?z_tuple ?z_len ?z_max ?z_min ?z_range
    (case g_PartsError => k_is)
    (case g_InvalidKey => k_is)
    (case g_InvalidSpan => k_is)
    (case a0 => k_is)
    (case l0 => k_is)
    (case c0 => k_is)
    (case k0 => k_is)
    (case a1 => k_is)
    (case l1 => k_is)
    (case c1 => k_is)
    (case k1 => k_is)
    (case a2 => k_is)
    (case l2 => k_is)
    (case c2 => k_is)
    (case k2 => k_is)
    (case a3 => k_is)
    (case l3 => k_is)
    (case c3 => k_is)
    (case k3 => k_is)
    (case a4 => k_is)
    (case l4 => k_is)
    (case c4 => k_is)
    (case k4 => k_is)
    (case a5 => k_is)
    (case l5 => k_is)
    (case c5 => k_is)
    (case k5 => k_is)
    (case a6 => k_is)
    (case l6 => k_is)
    (case c6 => k_is)
    (case k6 => k_is)
    (case a7 => k_is)
    (case l7 => k_is)
    (case c7 => k_is)
    (case k7 => k_is)
    (case a8 => k_is)
    (case l8 => k_is)
    (case c8 => k_is)
    (case k8 => k_is)
    (case a9 => k_is)
    (case l9 => k_is)
    (case c9 => k_is)
    (case k9 => k_is)
    (case a10 => k_is)
    (case l10 => k_is)
    (case c10 => k_is)
    (case k10 => k_is)
    (case a11 => k_is)
    (case l11 => k_is)
    (case c11 => k_is)
    (case k11 => k_is)
    (case a12 => k_is)
    (case l12 => k_is)
    (case c12 => k_is)
    (case k12 => k_is)
    (case a13 => k_is)
    (case l13 => k_is)
    (case c13 => k_is)
    (case k13 => k_is)
    (case a14 => k_is)
    (case l14 => k_is)
    (case c14 => k_is)
    (case k14 => k_is)
    (case a15 => k_is)
    (case l15 => k_is)
    (case c15 => k_is)
    (case k15 => k_is)
    (case a16 => k_is)
    (case l16 => k_is)
    (case c16 => k_is)
    (case k16 => k_is)
    (case a17 => k_is)
    (case l17 => k_is)
    (case c17 => k_is)
    (case k17 => k_is)
    (case a18 => k_is)
    (case l18 => k_is)
    (case c18 => k_is)
    (case k18 => k_is)
    (case a19 => k_is)
    (case l19 => k_is)
    (case c19 => k_is)
    (case k19 => k_is)
    (case xL_InvalidKey => k_is)
    (case rB_InvalidKey => decide +kernel)
    (case sa_InvalidKey => k_is)
    (case ga_InvalidKey => k_is)
    (case gg_InvalidKey => k_is)
    (case nb_InvalidKey => k_is)
    (case t1_InvalidKey => k_is)
    (case kC_InvalidKey => k_is)
    (case eC_InvalidKey => k_is)
    (case tC_InvalidKey => k_is)
    (case hC_InvalidKey => k_is)
    (case xL_InvalidSpan => k_is)
    (case rB_InvalidSpan => decide +kernel)
    (case sa_InvalidSpan => k_is)
    (case ga_InvalidSpan => k_is)
    (case gg_InvalidSpan => k_is)
    (case nb_InvalidSpan => k_is)
    (case t1_InvalidSpan => k_is)
    (case kC_InvalidSpan => k_is)
    (case eC_InvalidSpan => k_is)
    (case tC_InvalidSpan => k_is)
    (case hC_InvalidSpan => k_is)
    (case e_InvalidSpan_InvalidSpan => first | rfl | k_is)
    (case e_InvalidKey_InvalidSpan => first | rfl | k_is)
    (case e_InvalidKey_InvalidKey => first | rfl | k_is)
    (case z_isinstance => k_is)
    (case z_int => k_is)
    (case z_bool => k_is)
    (case z_tuple => k_is)
    (case z_len => k_is)
    (case z_max => k_is)
    (case z_min => k_is)
    (case z_range => k_is)
#print axioms PySem.Challenge.cw_hungparts_k02_spans_laid_over_one_anothe_holds

