import PyProof.Rows.All
import Wide.All
import OpenK.AllK
import Wide.FinOn
import HandS.ForMost
import HandS.ForExc
import HandS.IsInst
import HandS.Walk
import HandS.Codes
import HandS.SortKw
import HandS.TryMany
import HandS.ExcInit
import HandS.ExcField
import KE.DatumOrd
import HandS.More
import HandS.CallSlots
import HandS.Defaults
import HandS.TupAny
import HandS.StrMore
import HandS.FStr
import KE.IntTextLaws
import PySem.Challenge.RW_hungparts_k03_texts_of_spans
set_option Elab.async false
set_option linter.all false
set_option maxRecDepth 100000
set_option maxHeartbeats 4000000

namespace My
open PySem L2
def top (i : Nat) : Stmt := PySem.Challenge.pw_hungparts_k03_texts_of_spans.main.body.getD i (.Pass ⟨0, 0, 0, 0⟩)
abbrev s_InvalidSpan_init : Stmt := inClass (top 2) 0
theorem sc_InvalidSpan_init : FnScope ["self", "value"] ["self", "value"] (defScope s_InvalidSpan_init) := ⟨rfl, rfl, rfl, by decide +kernel, rfl, by decide +kernel, by decide +kernel⟩
abbrev s_InvalidText_init : Stmt := inClass (top 3) 0
theorem sc_InvalidText_init : FnScope ["self", "value"] ["self", "value"] (defScope s_InvalidText_init) := ⟨rfl, rfl, rfl, by decide +kernel, rfl, by decide +kernel, by decide +kernel⟩
abbrev s_is_integer : Stmt := top 6
theorem sc_is_integer : FnScope ["value"] ["value"] (defScope s_is_integer) := ⟨rfl, rfl, rfl, by decide +kernel, rfl, by decide +kernel, by decide +kernel⟩
abbrev s_is_span : Stmt := top 7
theorem sc_is_span : FnScope ["value", "low", "high"] ["value"] (defScope s_is_span) := ⟨rfl, rfl, rfl, by decide +kernel, rfl, by decide +kernel, by decide +kernel⟩
abbrev s_is_limit : Stmt := top 8
theorem sc_is_limit : FnScope ["value"] ["value"] (defScope s_is_limit) := ⟨rfl, rfl, rfl, by decide +kernel, rfl, by decide +kernel, by decide +kernel⟩
abbrev s_require_span : Stmt := top 9
theorem sc_require_span : FnScope ["value"] ["value"] (defScope s_require_span) := ⟨rfl, rfl, rfl, by decide +kernel, rfl, by decide +kernel, by decide +kernel⟩
abbrev s_span_text : Stmt := top 10
theorem sc_span_text : FnScope ["span", "low", "high"] ["span"] (defScope s_span_text) := ⟨rfl, rfl, rfl, by decide +kernel, rfl, by decide +kernel, by decide +kernel⟩
abbrev s_limit_text : Stmt := top 11
theorem sc_limit_text : FnScope ["limit"] ["limit"] (defScope s_limit_text) := ⟨rfl, rfl, rfl, by decide +kernel, rfl, by decide +kernel, by decide +kernel⟩
abbrev s_read_span : Stmt := top 12
theorem sc_read_span : FnScope ["text", "low", "dots", "high", "span"] ["text"] (defScope s_read_span) := ⟨rfl, rfl, rfl, by decide +kernel, rfl, by decide +kernel, by decide +kernel⟩
abbrev s_is_limit_text : Stmt := top 13
theorem sc_is_limit_text : FnScope ["text"] ["text"] (defScope s_is_limit_text) := ⟨rfl, rfl, rfl, by decide +kernel, rfl, by decide +kernel, by decide +kernel⟩
abbrev s_read_limit : Stmt := top 14
theorem sc_read_limit : FnScope ["text"] ["text"] (defScope s_read_limit) := ⟨rfl, rfl, rfl, by decide +kernel, rfl, by decide +kernel, by decide +kernel⟩
abbrev s_is_number_text : Stmt := top 15
theorem sc_is_number_text : FnScope ["text", "digits", "sign"] ["text"] (defScope s_is_number_text) := ⟨rfl, rfl, rfl, by decide +kernel, rfl, by decide +kernel, by decide +kernel⟩
abbrev s_law_cell : Stmt := top 17
theorem sc_law_cell : FnScope ["_law_script", "_law_k"] ["_law_script", "_law_k"] (defScope s_law_cell) := ⟨rfl, rfl, rfl, by decide +kernel, rfl, by decide +kernel, by decide +kernel⟩
abbrev s_law_box : Stmt := top 18
theorem sc_law_box : FnScope ["_law_cell_here"] ["_law_cell_here"] (defScope s_law_box) := ⟨rfl, rfl, rfl, by decide +kernel, rfl, by decide +kernel, by decide +kernel⟩
abbrev s_law_take : Stmt := top 19
theorem sc_law_take : FnScope ["_law_box_here", "_law_many", "_law_digit", "_law_number_here"] ["_law_box_here", "_law_many"] (defScope s_law_take) := ⟨rfl, rfl, rfl, by decide +kernel, rfl, by decide +kernel, by decide +kernel⟩
abbrev s_law_span : Stmt := top 20
theorem sc_law_span : FnScope ["_law_box_here", "_law_great", "_law_low", "_law_high"] ["_law_box_here"] (defScope s_law_span) := ⟨rfl, rfl, rfl, by decide +kernel, rfl, by decide +kernel, by decide +kernel⟩
abbrev s_law_number : Stmt := top 21
theorem sc_law_number : FnScope ["_law_word", "_law_digits", "_law_sign"] ["_law_word"] (defScope s_law_number) := ⟨rfl, rfl, rfl, by decide +kernel, rfl, by decide +kernel, by decide +kernel⟩
abbrev s_law_read : Stmt := top 22
theorem sc_law_read : FnScope ["_law_text", "_law_at", "_law_words", "_law_limits", "_law_word", "_law_k"] ["_law_text"] (defScope s_law_read) := ⟨rfl, rfl, rfl, by decide +kernel, rfl, by decide +kernel, by decide +kernel⟩
abbrev s_law_told : Stmt := top 23
theorem sc_law_told : FnScope ["_law_way", "_law_value", "e"] ["_law_way", "_law_value"] (defScope s_law_told) := ⟨rfl, rfl, rfl, by decide +kernel, rfl, by decide +kernel, by decide +kernel⟩
abbrev s_law_bent : Stmt := top 24
theorem sc_law_bent : FnScope ["_law_box_here", "_law_text", "_law_at", "_law_sign", "_law_head", "_law_tail"] ["_law_box_here", "_law_text"] (defScope s_law_bent) := ⟨rfl, rfl, rfl, by decide +kernel, rfl, by decide +kernel, by decide +kernel⟩
abbrev s_law : Stmt := top 25
theorem sc_law : FnScope ["_law_script", "_law_k", "_law_box_here", "_law_span_here", "_law_text", "_law_turn", "_law_bent_here", "_law_due", "_law_odd", "_law_bad", "_law_limit"] ["_law_script"] (defScope s_law) := ⟨rfl, rfl, rfl, by decide +kernel, rfl, by decide +kernel, by decide +kernel⟩

/-! ### further rules -/
section
variable {X : Cx}
theorem holdAll_ints {h : Heap} : ∀ {us : List Value} {ns : List Int}, Vals (ns.map V.int) us → PySem.W.HoldAll (α := Int) h us ns
  | _, [], .nil => ⟨_, .nil⟩
  | _, n :: r, .cons ⟨t, e⟩ k => by
    subst e
    obtain ⟨as, q⟩ := holdAll_ints (h := h) k
    exact ⟨_, .cons (.int n t) q⟩
theorem holds_int {h : Heap} {v : Value} {n : Int} (H : PySem.W.Holds (α := Int) h v n) : ∃ t, v = .int n t := by
  obtain ⟨as, r⟩ := H
  cases r
  exact ⟨_, rfl⟩
theorem maxOf_ints : ∀ (ys : List Int) (y : Int), PySem.W.maxOf y ys ∈ y :: ys ∧ ∀ n ∈ y :: ys, n ≤ PySem.W.maxOf y ys := by
  intro ys
  induction ys with
  | nil =>
    intro y
    exact ⟨List.mem_cons_self, fun n hn => by cases List.mem_singleton.mp hn; exact Int.le_refl _⟩
  | cons z r ih =>
    intro y
    have e : PySem.W.maxOf y (z :: r) = PySem.W.maxOf (if y < z then z else y) r := by
      show List.foldl _ (if decide (y < z) = true then z else y) r = _
      simp only [decide_eq_true_eq]
      rfl
    rw [e]
    obtain ⟨h1, h2⟩ := ih (if y < z then z else y)
    have hy := h2 _ List.mem_cons_self
    have hyz : y ≤ (if y < z then z else y) ∧ z ≤ (if y < z then z else y) := by
      split <;> omega
    refine ⟨?_, fun n hn => ?_⟩
    · rcases List.mem_cons.mp h1 with q | q
      · rw [q]
        split <;> simp
      · exact List.mem_cons_of_mem _ (List.mem_cons_of_mem _ q)
    · rcases List.mem_cons.mp hn with rfl | hn
      · omega
      · rcases List.mem_cons.mp hn with rfl | hn
        · omega
        · exact h2 n (List.mem_cons_of_mem _ hn)
theorem minOf_ints : ∀ (ys : List Int) (y : Int), PySem.W.minOf y ys ∈ y :: ys ∧ ∀ n ∈ y :: ys, PySem.W.minOf y ys ≤ n := by
  intro ys
  induction ys with
  | nil =>
    intro y
    exact ⟨List.mem_cons_self, fun n hn => by cases List.mem_singleton.mp hn; exact Int.le_refl _⟩
  | cons z r ih =>
    intro y
    have e : PySem.W.minOf y (z :: r) = PySem.W.minOf (if z < y then z else y) r := by
      show List.foldl _ (if decide (z < y) = true then z else y) r = _
      simp only [decide_eq_true_eq]
      rfl
    rw [e]
    obtain ⟨h1, h2⟩ := ih (if z < y then z else y)
    have hy := h2 _ List.mem_cons_self
    have hyz : (if z < y then z else y) ≤ y ∧ (if z < y then z else y) ≤ z := by
      split <;> omega
    refine ⟨?_, fun n hn => ?_⟩
    · rcases List.mem_cons.mp h1 with q | q
      · rw [q]
        split <;> simp
      · exact List.mem_cons_of_mem _ (List.mem_cons_of_mem _ q)
    · rcases List.mem_cons.mp hn with rfl | hn
      · omega
      · rcases List.mem_cons.mp hn with rfl | hn
        · omega
        · exact h2 n (List.mem_cons_of_mem _ hn)
/-- max(xs, default=d), xs a list of whole numbers -/
def rMaxD (K : PySem.W.Frag) : List V → List V → Hp → VK → Prop := fun xs zs H Q => ∃ (a : Addr) (ns : List Int) (d : V), xs = [.ref a] ∧ zs = [d] ∧ SqL K H a (ns.map V.int) ∧ (ns = [] → Q d H) ∧ ∀ m, m ∈ ns → (∀ n ∈ ns, n ≤ m) → Q (.int m) H
def rMinD (K : PySem.W.Frag) : List V → List V → Hp → VK → Prop := fun xs zs H Q => ∃ (a : Addr) (ns : List Int) (d : V), xs = [.ref a] ∧ zs = [d] ∧ SqL K H a (ns.map V.int) ∧ (ns = [] → Q d H) ∧ ∀ m, m ∈ ns → (∀ n ∈ ns, m ≤ n) → Q (.int m) H
theorem cr_maxD (hc : X.calm = true) (hu : X.A.units + 64 < cLine) : CallRK X (.builtin "max") ["default"] (rMaxD X.K) := by
  intro pins s σ H xs zs us ws Q I rx rz h
  obtain ⟨a, ns, d, rfl, rfl, hS, h0, h1⟩ := h
  obtain ⟨its, rv, pl, _⟩ := I.list hS
  obtain ⟨u, rfl, ru⟩ := vals1 rx
  obtain ⟨dv, rfl, rd⟩ := vals1 rz
  cases ru
  refine PySem.W.max_list_datum_default (α := Int) (xs := ns) (I.ok.hd hc) pl.isList (holdAll_ints (by simpa using rv)) (by show X.A.units + 1 + 0 < cLine; omega) (fun e h' tk k => ⟨d, H, I.kept k, rd, h0 e⟩) fun y ys i v h' tk e hi hh k => ?_
  subst e
  obtain ⟨t, rfl⟩ := holds_int hh
  have m := maxOf_ints ys y
  exact ⟨.int _, H, I.kept k, ⟨t, rfl⟩, h1 _ m.1 m.2⟩
theorem cr_minD (hc : X.calm = true) (hu : X.A.units + 64 < cLine) : CallRK X (.builtin "min") ["default"] (rMinD X.K) := by
  intro pins s σ H xs zs us ws Q I rx rz h
  obtain ⟨a, ns, d, rfl, rfl, hS, h0, h1⟩ := h
  obtain ⟨its, rv, pl, _⟩ := I.list hS
  obtain ⟨u, rfl, ru⟩ := vals1 rx
  obtain ⟨dv, rfl, rd⟩ := vals1 rz
  cases ru
  refine PySem.W.min_list_datum_default (α := Int) (xs := ns) (I.ok.hd hc) pl.isList (holdAll_ints (by simpa using rv)) (by show X.A.units + 1 + 0 < cLine; omega) (fun e h' tk k => ⟨d, H, I.kept k, rd, h0 e⟩) fun y ys i v h' tk e hi hh k => ?_
  subst e
  obtain ⟨t, rfl⟩ := holds_int hh
  have m := minOf_ints ys y
  exact ⟨.int _, H, I.kept k, ⟨t, rfl⟩, h1 _ m.1 m.2⟩
/-- what is surely the same: a flat value, or one object -/
def sureV (v : V) : Bool := flatB v || (match v with | .ref _ => true | _ => false)
theorem sure_eq {A : Around} {s : Shared} {v : V} {u u' : Value} (r : RelV v u) (r' : RelV v u') (f : sureV v = true) : SeqAt.EqAt A s u u' true := by
  cases v with
  | ref a =>
    cases (show u = Value.ref a from r)
    cases (show u' = Value.ref a from r')
    exact SeqAt.EqAt.same _
  | ty n => cases f
  | flt b => cases f
  | _ => exact eqAt_same r r' rfl
/-- two lists of the same items: they are not unlike -/
def rNeS (K : PySem.W.Frag) : R2 := fun x y H Q => ∃ (a b : Addr) (xs : List V), x = .ref a ∧ y = .ref b ∧ SqL K H a xs ∧ SqL K H b xs ∧ xs.all sureV = true ∧ Q (.bl false) H
theorem op_neS (hu : X.A.units + 64 < cLine) : OpR X (compareOp .NotEq) (rNeS X.K) := by
  intro pins s σ H x y v u Q I rx ry h
  obtain ⟨a, b, xs, rfl, rfl, ha, hb, hf, q⟩ := h
  cases (show v = Value.ref a from rx)
  cases (show u = Value.ref b from ry)
  obtain ⟨us, r1, p1, _⟩ := I.list ha
  obtain ⟨ws, r2, p2, _⟩ := I.list hb
  have hl : us.toArray.size = ws.toArray.size := by
    rw [List.size_toArray, List.size_toArray, ← r1.length, ← r2.length]
  refine SeqAt.RcNeAt.lists (e := fun _ => true) p1.isList p2.isList hl (by omega) (fun j h1 h2 => ?_) X.prog X.w _ _ ?_
  · have hj : j < xs.length := by
      rw [r1.length]
      simpa using h1
    obtain ⟨u1, e1, q1⟩ := r1.get (List.getElem?_eq_getElem hj)
    obtain ⟨u2, e2, q2⟩ := r2.get (List.getElem?_eq_getElem hj)
    have k1 : us.toArray[j] = u1 := by
      have := List.getElem?_eq_some_iff.mp e1
      simpa using this.2
    have k2 : ws.toArray[j] = u2 := by
      have := List.getElem?_eq_some_iff.mp e2
      simpa using this.2
    rw [k1, k2]
    exact sure_eq q1 q2 (List.all_eq_true.mp hf _ (List.getElem_mem hj))
  · have ea : ((List.range us.toArray.size).all fun _ => true) = true := List.all_eq_true.mpr fun _ _ => rfl
    rw [ea]
    exact ⟨.bl false, H, I, rfl, q⟩
end
/-! ### try with several clauses, each of which names the exception: slot i is the name's -/
/-- what the clauses wish of an exception of the body, one after the other -/
def wManyAs (K : PySem.W.Frag) (i : Nat) (Wout : WX) (D : Ends) : List (Value × (Addr → Value → Option Addr → TS)) → WX
  | [] => Wout
  | (c, ts) :: r => wAs K c i ts (wManyAs K i Wout D r) D
inductive HdsAs (X : Cx) (n : Str) : List ExceptHandler → List (Value × (Addr → Value → Option Addr → TS)) → Prop
  | nil : HdsAs X n [] []
  | cons {x : Str} {c : Value} {ts : Addr → Value → Option Addr → TS} {st : Stmt} {sts : List Stmt} {p1 p2 : Pos} {hs : List ExceptHandler} {l : List (Value × (Addr → Value → Option Addr → TS))} (hc : Names X x c)
      (hb : ∀ (a : Addr) (o : Obj) (cls : Value) (d : Option Addr) (pn : List (Addr × Obj)), Zc cls d o → (∃ vs, o.data = .fields vs) → PSs (X.suite a ((a, o) :: pn)) (st :: sts) (ts a cls d)) (r : HdsAs X n hs l) :
      HdsAs X n (.ExceptHandler (some (.Name x p1)) (some n) (st :: sts) p2 :: hs) ((c, ts) :: l)
section
variable {X : Cx} {n : Str} {i : Nat} {pos : Pos} {tb : WX → TS} {Wout : WX} {body : List Stmt}
theorem ps_try_manyAs {g₀ : ExceptHandler} {gs : List ExceptHandler} {l : List (Value × (Addr → Value → Option Addr → TS))} (stk : X.stack = X.env :: X.outer) (frm : X.env.frame = some X.env.locals) (nodup : X.N.Nodup) (at_i : X.N[i]? = some n) (lcl : X.env.kindOf n = some .local)
    (out : Takes X Wout) (hbody : ∀ (W : WX) (pn : List (Addr × Obj)) (xe : Value → Shared → Prop), Takes (X.tr pn xe) W → PassesOwn (model X.prog X.w) X.A X.env xe → PSs (X.tr pn xe) body (tb W)) (hands : HdsAs X n (g₀ :: gs) l) :
    PS X (.Try body (g₀ :: gs) [] [] pos) (fun D σ H => tb (wManyAs X.K i Wout D l) D σ H) := by
  constructor
  intro pins s σ H D I hw
  have fr2 : X.A.frames = some (X.env :: X.outer) := by
    rw [I.ok.frames, stk]
  apply wpAny_Try_except
  let xe' : Value → Shared → Prop := fun e s₁ => wpAny (model X.prog X.w) X.A (noteFrame e X.env)
    (fun _ s₂ => wpAny (model X.prog X.w) X.A (setFlight e none) (fun _ s₃ => wpAny (model X.prog X.w) X.A (handleBy e X.env (g₀ :: gs)) (SP X pins D) X.xe s₃) X.xe s₂) X.xe s₁
  have caught : Takes (X.tr (X.pn ++ pins) xe') (wManyAs X.K i Wout D l) := by
    rintro u s' ⟨a, B, sI, pins', σ', H', cls, d, rfl, J1, nb, up, sky, na, os, ag, wish⟩
    have J := J1.ofTry I.ok
    have sky2 : Sky B (X.env :: X.outer) a (Zc cls d) X.env.locals s'.heap := by
      rw [← stk]
      exact sky
    show wpAny _ X.A (noteFrame (.ref a) X.env) _ _ _
    apply Sky.land Zc.steady fr2 frm sky2
    intro hA fly upA
    have JA : Inv X pins σ' H' { s' with heap := hA } := J.landed nb fly.1 (up.trans upA) os ag
    obtain ⟨oA, wA, getA, zA, dataA⟩ := fly.there
    have off : a ∉ frs (X.env :: X.outer) := by
      intro hm
      obtain ⟨_, o2, get2, nodata⟩ := fly.2.2.1.mem hm
      have same := get2.symm.trans getA
      cases same
      exact nodata _ dataA
    have offL : a ≠ X.env.locals := by
      intro z
      refine off (List.mem_filterMap.mpr ⟨X.env, List.mem_cons_self, ?_⟩)
      rw [frm, z]
    have offF : a ∉ X.fs := by
      intro hm
      obtain ⟨e, he, q⟩ := List.mem_filterMap.mp hm
      exact off (List.mem_filterMap.mpr ⟨e, List.mem_cons_of_mem _ he, q⟩)
    have SA := JA.suite getA dataA na offL offF
    suffices go : ∀ {hs : List ExceptHandler} {l' : List (Value × (Addr → Value → Option Addr → TS))}, HdsAs X n hs l' → wManyAs X.K i Wout D l' cls d σ' H' →
        wpAny (model X.prog X.w) X.A (handleBy (.ref a) X.env hs) (SP X pins D) X.xe { s' with heap := hA } from go hands wish
    intro hs l' hk
    induction hk with
    | nil =>
      intro wi
      apply wpAny_handleBy_nil
      obtain ⟨_, _, _, o5, w5, T5, oT5, t5, g5, z5, d5, e5, r5⟩ := id fly
      unfold PySem.passOn
      apply wpAny_bind
      refine wpAny_field g5 d5 e5 ?_
      rw [if_neg (show ¬ ((Value.ref T5 == Value.none) = true) by simp)]
      have leave : wpAny (model X.prog X.w) X.A (setFlight (.ref a) X.env.frame) (fun _ s4 => wpAny (model X.prog X.w) X.A (throw (.ref a) : Sem Flow) (SP X pins D) X.xe s4) X.xe { s' with heap := hA } := by
        rw [frm]
        refine HandSPX.setFlight_upZ fly fun hB heldB upB => ?_
        apply wpAny_throw
        exact out _ _ ⟨a, B, sI, pins, σ', H', cls, d, rfl, J, nb, (up.trans upA).trans upB, .inr (.inr (by rw [stk]; exact heldB)), na, os, ag, wi⟩
      first
        | exact wpAny_bind leave
        | exact wpAny_bind (wpAny_pure (wpAny_bind leave))
    | @cons x c ts st sts p1 p2 hs2 l2 hc hb r ih =>
      rintro ⟨b, isb, yes, no⟩
      refine wpAny_handleBy_cons (codeAny_handlers_test ?_) (by intro q; cases q)
      have lookT : PySem.W.Looks (model X.prog X.w) hA (typeOf (.ref a)) cls := by
        intro A' Q E s2 k q
        exact wpAny_typeOf_ref (k _ _ getA) (by rw [zA.1]; exact q)
      have lookM := PySem.W.exm_one (M := model X.prog X.w) JA.kIn lookT isb
      have named : ∀ {Q E : Value → Shared → Prop}, Q c { s' with heap := hA } → wpAny (model X.prog X.w) (X.A.mark (some (.ref a))) (eval (.Name x p1) X.env) Q E { s' with heap := hA } := by
        intro Q E q
        obtain ⟨gl, nd, hm⟩ := hc
        rcases hm with hm | ⟨hm, bv, nn⟩
        · exact ld_glob (X := X.suite a ((a, oA) :: (X.pn ++ pins))) SA gl hm q nd
        · exact ld_blt (X := X.suite a ((a, oA) :: (X.pn ++ pins))) SA gl hm bv q nn nd
      apply named
      apply lookM.here
      cases b with
      | false =>
        show wpAny _ X.A (handleBy (.ref a) X.env hs2) _ _ _
        exact ih (no rfl)
      | true =>
        apply codeAny_handlers_suite_as
        refine HandSPX.lands_againZ fly fun hC flyC upC => ?_
        have JC : Inv X pins σ' H' { s' with heap := hC } := J.landed nb flyC.1 ((up.trans upA).trans upC) os ag
        obtain ⟨oC, wC, getC, zC, dataC⟩ := flyC.there
        have SC := JC.suite getC dataC na offL offF
        refine store_ok (X := X.suite a ((a, oC) :: (X.pn ++ pins))) (v := .ref a) SC nodup at_i (.inl lcl) rfl (fun s5 S5 => ?_) (.inr lcl)
        refine wpAny_mono ((hb a oC cls d (X.pn ++ pins) zC ⟨_, dataC⟩).run [] s5 _ H' _ S5 (yes rfl a na)) (fun fl s6 hq => ?_) (fun _ _ z => z.elim)
        have fin : ∀ {σ6 : L2.St} {H6 : Hp} {Q : Shared → Prop}, Inv (X.suite a ((a, oC) :: (X.pn ++ pins))) [] σ6 H6 s6 → (∀ s7, Inv X pins (σ6.set i none) H6 s7 → Q s7) →
            wpAny (model X.prog X.w) X.A (do bindName X.env n .none; unbindBehindTheSuite X.env n p2) (fun _ s7 => Q s7) X.xe s6 := by
          intro σ6 H6 Q S6 q
          exact gone_ok (S6.unsuite I.ok) nodup at_i lcl q
        cases fl with
        | ret u =>
          obtain ⟨v6, σ6, H6, S6, r6, q6⟩ := hq
          exact fin S6 fun s7 J7 => ⟨_, _, _, J7, r6, q6⟩
        | next =>
          obtain ⟨σ6, H6, S6, q6⟩ := hq
          exact fin S6 fun s7 J7 => ⟨_, _, J7, q6⟩
        | brk =>
          obtain ⟨σ6, H6, S6, q6⟩ := hq
          exact fin S6 fun s7 J7 => ⟨_, _, J7, q6⟩
        | cont =>
          obtain ⟨σ6, H6, S6, q6⟩ := hq
          exact fin S6 fun s7 J7 => ⟨_, _, J7, q6⟩
  refine wpAny_mono ((hbody _ (X.pn ++ pins) xe' caught PassesOwn.looking).run [] s σ H D (I.toTry _) hw) (fun fl s1 hq => ?_) (fun _ _ he => he)
  cases fl with
  | ret u =>
    obtain ⟨v, σ', H', J', r', q⟩ := hq
    exact ⟨v, σ', H', J'.ofTry I.ok, r', q⟩
  | next =>
    obtain ⟨σ', H', J', q⟩ := hq
    exact wpAny_execs_nil ⟨σ', H', J'.ofTry I.ok, q⟩
  | brk =>
    obtain ⟨σ', H', J', q⟩ := hq
    exact ⟨σ', H', J'.ofTry I.ok, q⟩
  | cont =>
    obtain ⟨σ', H', J', q⟩ := hq
    exact ⟨σ', H', J'.ofTry I.ok, q⟩
end
/-! ### a def called with keywords (and perhaps positional values ahead), what leaves it wished for at the caller's slots -/
/-- what such a call binds, the parameters' order by a permutation of the values -/
structure KwB (K : PySem.W.Frag) (fd : FuncData) (ps : List Str) (n : Nat) (ks : List Str) (g : {α : Type} → List α → List α → List α) : Prop where
  to : ∀ (us ws : List Value), us.length = n → ws.length = ks.length → bindArgs fd ⟨us, ks.zip ws⟩ = pure (ps.zip (g us ws))
  rel : ∀ {vs : List V} {us : List Value} {zs : List V} {ws : List Value}, vs.length = n → zs.length = ks.length → Vals vs us → Vals zs ws → Vals (g vs zs) (g us ws)
def tCallKw (n m : Nat) (sp : Sp) (g : List V → List V → List V) (E : L2.St → XK) (t tk : TA) : TE := fun σ H Q => t σ H fun vs H1 => tk σ H1 fun zs H2 => vs.length = n ∧ zs.length = m ∧ sp (g vs zs) H2 Q (E σ)
section
variable {X : Cx} {CX : CXT} {k n : Nat} {f : Addr} {fd : FuncData} {ps ks : List Str} {sp : Sp} {E : L2.St → XK} {x : Str} {p pos : Pos} {e : Expr} {es : List Expr} {kws : List Keyword} {t tk : TA} {g : {α : Type} → List α → List α → List α}
theorem run_kw {pins : List (Addr × Obj)} {σ : L2.St} {H : Hp} {s : Shared} {Q : VK} {us ws : List Value} {vs zs : List V} (F : FnOk X.prog X.w X.K X.mg X.base CX k f fd ps sp) (room : Room k X.A) (bnd : KwB X.K fd ps n ks g) (px : PassesAt CX X σ (E σ))
    (I : Inv X pins σ H s) (rv : Vals vs us) (rz : Vals zs ws) (l1 : vs.length = n) (l2 : zs.length = ks.length) (hsp : sp (g vs zs) H Q (E σ)) : wpAny (model X.prog X.w) X.A (call (.ref f) us (ks.zip ws)) (EP X pins σ Q) X.xe s := by
  apply wpAny_call
  refine codeAny_mono (F.run X.A X.stack s H ⟨us, ks.zip ws⟩ (g us ws) (g vs zs) Q (E σ) room I.env0 (.of_eq (bnd.to us ws (rv.length.symm.trans l1) (rz.length.symm.trans l2))) (bnd.rel l1 l2 rv rz) hsp) fun r s' got => ?_
  match r, got with
  | .error er, got => exact px pins H s er s' I got
  | .ok (.ret u), got => exact I.after got
  | .ok .next, got => exact got.elim
  | .ok .brk, got => exact got.elim
  | .ok .cont, got => exact got.elim
/-- f(k = v, ..) -/
theorem pe_kw0 (F : FnOk X.prog X.w X.K X.mg X.base CX k f fd ps sp) (room : Room k X.A) (gl : Gl X x) (m : X.mg x = some (.ref f)) (kp : PySem.W.keepIn X.K (.ref f) = true) (bnd : KwB X.K fd ps 0 ks g) (px : ∀ σ, PassesAt CX X σ (E σ)) (kw : PK X kws tk)
    (h1 : (backToKw pos (keywordEach kws X.env)).all (·.1.isSome) = true := by rfl) (h2 : (backToKw pos (keywordEach kws X.env)).filterMap (·.1) = ks := by rfl) (h3 : (x == ("__debug__" : Str)) = false := by decide)
    (h4 : ((backTo pos (starEach [] X.env)).any (·.1) || (backToKw pos (keywordEach kws X.env)).any (·.1.isNone)) = false := by rfl) : PE X (.Call (.Name x p) [] kws pos) (tCallKw 0 ks.length sp g E tNil tk) := by
  constructor
  intro pins s σ H Q I h
  apply wpAny_Call_Name_kw
  refine ld_glob I gl m ?_ h3
  refine PySem.W.callWith_KW0 (h₀ := X.base) I.ok.mod.kin kp h1 ?_ h4
  refine thn (kw.run pos pins s σ H _ I h) fun ws s2 got => ?_
  obtain ⟨zs, H2, I2, rz, l1, l2, q2⟩ := got
  rw [h2]
  exact ⟨I2.kIn, run_kw (us := []) (vs := []) F room bnd (px σ) I2 .nil rz rfl l2 q2⟩
/-- f(e, .., k = v, ..) -/
theorem pe_kw (F : FnOk X.prog X.w X.K X.mg X.base CX k f fd ps sp) (room : Room k X.A) (gl : Gl X x) (m : X.mg x = some (.ref f)) (kp : PySem.W.keepIn X.K (.ref f) = true) (bnd : KwB X.K fd ps n ks g) (px : ∀ σ, PassesAt CX X σ (E σ)) (ha : PA X (e :: es) t) (kw : PK X kws tk)
    (h1 : (backToKw pos (keywordEach kws X.env)).all (·.1.isSome) = true := by rfl) (h2 : (backToKw pos (keywordEach kws X.env)).filterMap (·.1) = ks := by rfl) (h3 : (x == ("__debug__" : Str)) = false := by decide)
    (h5 : starEach (e :: es) X.env = (false, eval e X.env) :: starEach es X.env := by rfl) (h4 : ((backTo pos (starEach (e :: es) X.env)).any (·.1) || (backToKw pos (keywordEach kws X.env)).any (·.1.isNone)) = false := by rfl) :
    PE X (.Call (.Name x p) (e :: es) kws pos) (tCallKw n ks.length sp g E t tk) := by
  constructor
  intro pins s σ H Q I h
  apply wpAny_Call_Name_kw
  refine ld_glob I gl m ?_ h3
  refine PySem.W.callWith_KW (h₀ := X.base) I.ok.mod.kin kp h1 (thn (ha.run pos pins s σ H _ I h) fun us s1 got => ?_) h4 h5
  obtain ⟨vs, H1, I1, rv, q⟩ := got
  refine thn (kw.run pos pins s1 σ H1 _ I1 q) fun ws s2 got => ?_
  obtain ⟨zs, H2, I2, rz, l1, l2, q2⟩ := got
  rw [h2]
  exact ⟨I2.kIn, run_kw F room bnd (px σ) I2 rv rz l1 l2 q2⟩
theorem passAt_of {X : Cx} {CX : CXT} {E : XK} (h : Passes CX X E) (σ : L2.St) : PassesAt CX X σ E := fun pins H s e s' I c => h pins σ H s e s' I c
/-- in a def that lets exceptions out: what a callee lets out goes on -/
theorem passC {X : Cx} {E : XK} (tk : Takes X (fun cls d _ H => E cls d H)) : Passes (L2.CX X.prog X.w) X E := passes_call tk fun _ _ _ _ h => h
end
/-- the drawing box at p: three ints, drawn n times at most -/
def BoxAt (H : Hp) (p : Addr) (n : Nat) : Prop := ∃ d s c : Int, H p = some (.lst [.int d, .int s, .int c]) ∧ 0 ≤ d ∧ 0 ≤ s ∧ s < 2147483629 ∧ 0 ≤ c ∧ c ≤ n
/-- H0: all that is known beside the box -/
structure BoxIn (H0 H : Hp) (p : Addr) (n : Nat) : Prop where
  same : Same H0 H
  free : H0 p = none
  box : BoxAt H p n
theorem BoxAt.mono {H : Hp} {p : Addr} {n m : Nat} (b : BoxAt H p n) (h : n ≤ m) : BoxAt H p m := by
  obtain ⟨d, s, c, h1, h2, h3, h4, h5, h6⟩ := b
  exact ⟨d, s, c, h1, h2, h3, h4, h5, by omega⟩
theorem BoxIn.mono {H0 H : Hp} {p : Addr} {n m : Nat} (b : BoxIn H0 H p n) (h : n ≤ m) : BoxIn H0 H p m := ⟨b.same, b.free, b.box.mono h⟩
/-- a pure step behind it -/
theorem BoxIn.keep {H0 H H' : Hp} {p : Addr} {n : Nat} (b : BoxIn H0 H p n) (s : Same H H') : BoxIn H0 H' p n := by
  obtain ⟨d, s', c, h1, h⟩ := b.box
  exact ⟨b.same.trans s, b.free, d, s', c, s _ _ h1, h⟩
/-- a new object becomes known -/
theorem BoxIn.new {H0 H : Hp} {p q : Addr} {n : Nat} {o : HO} (b : BoxIn H0 H p n) (hq : H q = none) : BoxIn (upd H0 q o) (upd H q o) p n ∧ Same H0 (upd H0 q o) := by
  obtain ⟨d, s', c, h1, h⟩ := b.box
  have npq : p ≠ q := ne_of_none h1 hq
  refine ⟨⟨fun x u e => ?_, by rw [upd_ne npq]; exact b.free, d, s', c, by rw [upd_ne npq]; exact h1, h⟩, fun x u e => ?_⟩
  · by_cases hx : x = q
    · subst hx
      rw [upd_same] at e ⊢
      exact e
    · rw [upd_ne hx] at e ⊢
      exact b.same _ _ e
  · rw [upd_ne (ne_of_none e (b.same.free hq))]
    exact e
/-- all that is tracked now, the box aside, is known -/
def but (H : Hp) (p : Addr) : Hp := fun q => if q = p then none else H q
theorem but_same {H : Hp} {p : Addr} : but H p p = none := by unfold but; rw [if_pos rfl]
theorem but_ne {H : Hp} {p q : Addr} (h : q ≠ p) : but H p q = H q := by unfold but; rw [if_neg h]
theorem BoxIn.all {H0 H : Hp} {p : Addr} {n : Nat} (b : BoxIn H0 H p n) : BoxIn (but H p) H p n ∧ Same H0 (but H p) := by
  refine ⟨⟨fun x u e => ?_, but_same, b.box⟩, fun x u e => ?_⟩
  · by_cases hx : x = p
    · subst hx
      rw [but_same] at e
      cases e
    · rw [but_ne hx] at e
      exact e
  · have hx : x ≠ p := fun q => by
      rw [q, b.free] at e
      cases e
    rw [but_ne hx]
    exact b.same _ _ e

def sp_law_cell (K : PySem.W.Frag) : Sp := fun vs H Q _ => ∃ (a : Addr) (ns : List Int) (k : Int), vs = [.ref a, .int k] ∧ SqL K H a (ns.map V.int) ∧ 0 ≤ k ∧ ∀ z, Q (.int z) H
def sp_law_box : Sp := fun vs H Q _ => ∃ z : Int, vs = [.int z] ∧ ∀ p o, H p = none → BoxAt (upd H p o) p 0 → Q (.ref p) (upd H p o)
def sp_law_take : Sp := fun vs H Q _ => ∃ (H0 : Hp) (p : Addr) (n : Nat) (m : Int), vs = [.ref p, .int m] ∧ BoxIn H0 H p n ∧ n < 1000000 ∧ 0 < m ∧ m < 1000000 ∧
  ∀ (z : Int) (H' : Hp), 0 ≤ z → z < m → BoxIn H0 H' p (n + 1) → Q (.int z) H'
/-- what the law's promise is: a list of at most 63 ints is handed in, True comes out -/
def sp_law (K : PySem.W.Frag) : Sp := fun vs H Q _ => ∃ (a : Addr) (ns : List Int), vs = [.ref a] ∧ SqL K H a (ns.map V.int) ∧ ns.length ≤ 63 ∧ ∀ H', Q (.bl true) H'
/-! ### values as data -/
theorem same_t {K : PySem.W.Frag} {H H' : Hp} {a : Addr} {xs : List V} (e : Same H H') (h : SqT K H a xs) : SqT K H' a xs := by
  rcases h with (h | ⟨o, h⟩) | h
  · exact .inl (.inl (e _ _ h))
  · exact .inl (.inr ⟨o, e _ _ h⟩)
  · exact .inr h
mutual
theorem dp_mono {K : PySem.W.Frag} {H H' : Hp} (e : Same H H') : ∀ {v : V} {d : PyData}, Dp K H v d → Dp K H' v d
  | _, _, .non => .non
  | _, _, .bl b => .bl b
  | _, _, .int i => .int i
  | _, _, .str x => .str x
  | _, _, .lst h a => .lst (e.seq h) (dpAll_mono e a)
  | _, _, .tup h a => .tup (same_t e h) (dpAll_mono e a)
theorem dpAll_mono {K : PySem.W.Frag} {H H' : Hp} (e : Same H H') : ∀ {vs : List V} {ds : List PyData}, DpAll K H vs ds → DpAll K H' vs ds
  | _, _, .nil => .nil
  | _, _, .cons a b => .cons (dp_mono e a) (dpAll_mono e b)
end
theorem dpAll_get {K : PySem.W.Frag} {H : Hp} : ∀ {vs : List V} {ds : List PyData} {i : Nat} {v : V}, DpAll K H vs ds → vs[i]? = some v → ∃ d, ds[i]? = some d ∧ Dp K H v d
  | _, _, 0, _, .cons a _, h => ⟨_, rfl, by cases h; exact a⟩
  | _, _, i + 1, _, .cons _ b, h => dpAll_get (i := i) b h
theorem dpAll_len {K : PySem.W.Frag} {H : Hp} : ∀ {vs : List V} {ds : List PyData}, DpAll K H vs ds → vs.length = ds.length
  | _, _, .nil => rfl
  | _, _, .cons _ b => congrArg (· + 1) (dpAll_len b)
theorem dpAll_strs {K : PySem.W.Frag} {H : Hp} : ∀ ss : List Str, DpAll K H (ss.map V.str) (ss.map PyData.str)
  | [] => .nil
  | s :: r => .cons (.str s) (dpAll_strs r)
theorem dpAll_bls {K : PySem.W.Frag} {H : Hp} : ∀ bs : List Bool, DpAll K H (bs.map V.bl) (bs.map PyData.bool)
  | [] => .nil
  | b :: r => .cons (.bl b) (dpAll_bls r)
theorem eqv_nil (ds : List PyData) : PyData.eqv (.list ds) (.list []) = ds.isEmpty := by
  cases ds with
  | nil => simp [PyData.eqv, PyData.eqvAll]
  | cons d r => simp [PyData.eqv, PyData.eqvAll]
theorem shaped_nil : SeqAt.shaped (.list []) = true := by decide +kernel
theorem canAll_mem {ds : List PyData} : PyData.canLayAll0 ds = true ↔ ∀ d ∈ ds, d.canLay0 = true := by
  induction ds with
  | nil => simp [PyData.canLayAll0]
  | cons d r ih => simp [PyData.canLayAll0, ih]
theorem depthAll_le {ds : List PyData} {n : Nat} (h : ∀ d ∈ ds, d.depth ≤ n) : PyData.depthAll ds ≤ n := by
  induction ds with
  | nil => simp [PyData.depthAll]
  | cons d r ih =>
    have h1 := h d (List.mem_cons_self)
    have h2 := ih fun x hx => h x (List.mem_cons_of_mem _ hx)
    simp only [PyData.depthAll]
    omega
theorem depthAll_mem {ds : List PyData} {d : PyData} (h : d ∈ ds) : d.depth ≤ PyData.depthAll ds := by
  induction ds with
  | nil => cases h
  | cons e r ih =>
    simp only [PyData.depthAll]
    rcases List.mem_cons.mp h with rfl | h
    · omega
    · have := ih h
      omega
theorem shaped_iff {d : PyData} : SeqAt.shaped d = true ↔ d.canLay0 = true ∧ d.depth ≤ 64 := by
  unfold SeqAt.shaped
  rw [Bool.and_eq_true, decide_eq_true_iff]
/-- a list of data that are d deep at most -/
theorem shaped_list {ds : List PyData} {n : Nat} (hn : n < 64) (h : ∀ d ∈ ds, d.canLay0 = true ∧ d.depth ≤ n) : SeqAt.shaped (.list ds) = true := by
  refine shaped_iff.mpr ⟨?_, ?_⟩
  · simp only [PyData.canLay0]
    exact canAll_mem.mpr fun d hd => (h d hd).1
  · have := depthAll_le fun d hd => (h d hd).2
    simp only [PyData.depth]
    omega
theorem shaped_of_tuple {ds : List PyData} (h : SeqAt.shaped (.tuple ds) = true) {d : PyData} (hd : d ∈ ds) : d.canLay0 = true ∧ d.depth ≤ 63 := by
  obtain ⟨h1, h2⟩ := shaped_iff.mp h
  simp only [PyData.canLay0] at h1
  simp only [PyData.depth] at h2
  have := depthAll_mem hd
  exact ⟨canAll_mem.mp h1 d hd, by omega⟩
/-- a value and what it is: data of any depth, or a dict (none) -/
inductive VD (K : PySem.W.Frag) (H : Hp) : V → Option PyData → Prop where
  | dat {v : V} {d : PyData} : Dp K H v d → SeqAt.shaped d = true → (∀ s, d = .str s → s.length ≤ 1000) → VD K H v (some d)
  | dic {a : Addr} {kvs : List (Key × V)} : H a = some (.dK kvs) → VD K H (.ref a) none
theorem VD.mono {K : PySem.W.Frag} {H H' : Hp} (e : Same H H') {v : V} {o : Option PyData} (h : VD K H v o) : VD K H' v o := by
  cases h with
  | dat a b c => exact .dat (dp_mono e a) b c
  | dic a => exact .dic (e _ _ a)
def tyD : PyData → String
  | .none => "NoneType" | .bool _ => "bool" | .int _ => "int" | .str _ => "str" | .list _ => "list" | .tuple _ => "tuple" | .dict _ => "dict"
def tyO : Option PyData → String
  | none => "dict"
  | some d => tyD d
theorem dp_ty {K : PySem.W.Frag} {H : Hp} {v : V} {d : PyData} (h : Dp K H v d) : TyX K H v (.type (tyD d)) := by
  cases h with
  | non => exact .base .non
  | bl b => exact .base (.bl b)
  | int i => exact .base (.int i)
  | str x => exact .base (.str x)
  | lst h _ =>
    rcases h with (h | ⟨o, h⟩) | ⟨o, its, n, h, c, _⟩
    · exact .base (.lst h)
    · exact .base (.frz h)
    · exact .kList h c
  | tup h _ =>
    rcases h with (h | ⟨o, h⟩) | ⟨o, its, n, h, c, _⟩
    · exact .base (.tup h)
    · exact .fTuple h
    · exact .kTuple h c
theorem VD.ty {K : PySem.W.Frag} {H : Hp} {v : V} {o : Option PyData} (h : VD K H v o) : TyX K H v (.type (tyO o)) := by
  cases h with
  | dat a _ _ => exact dp_ty a
  | dic a => exact .base (.dK a)
def isT (T : String) (o : Option PyData) : Bool := tyO o == T || (T == "int" && tyO o == "bool")
theorem tyO_mem (o : Option PyData) : tyO o = "NoneType" ∨ tyO o = "bool" ∨ tyO o = "int" ∨ tyO o = "str" ∨ tyO o = "list" ∨ tyO o = "tuple" ∨ tyO o = "dict" := by
  rcases o with _ | d
  · simp [tyO]
  · cases d <;> simp [tyO, tyD]
theorem kit_o {K : PySem.W.Frag} (o : Option PyData) {T : String} (hT : T = "int" ∨ T = "bool" ∨ T = "str" ∨ T = "tuple") : PySem.W.kitOne K (.type (tyO o)) (.type T) = some (isT T o) := by
  have h := tyO_mem o
  unfold isT
  generalize tyO o = nm at h ⊢
  rcases hT with rfl | rfl | rfl | rfl
  all_goals
    rcases h with rfl | rfl | rfl | rfl | rfl | rfl | rfl
    all_goals exact kit_ty (by decide +kernel)
def nonO : Option PyData → Bool
  | some .none => true
  | _ => false
theorem vd_non {K : PySem.W.Frag} {H : Hp} {v : V} {o : Option PyData} (h : VD K H v o) : decide (v = .non) = nonO o := by
  cases h with
  | dat a _ _ => cases a <;> rfl
  | dic a => rfl
theorem iteFe {c : Bool} {A B : Prop} (h : c = false) (q : B) : if c = true then A else B := by
  subst h
  exact iteF q
theorem iteTe {c : Bool} {A B : Prop} (h : c = true) (q : A) : if c = true then A else B := by
  subst h
  exact iteT q
theorem tyes {te : TE} {σ : L2.St} {H : Hp} {R : V → Hp → Prop} {S : Hp → Prop} (h : te σ H R) : tYes σ H (fun b H3 => if b = true then te σ H3 R else S H3) := by
  show (if true = true then te σ H R else S H)
  exact iteT h
/-! ### comprehensions that change nothing: acc i is what is made behind i turns -/
theorem lc_acc {J : It} {n : Nat} {G : Hp → Prop} {item : Nat → V → Prop} {g : TG} {tt : TT} {te : TE} {vs : List Nat} {σ : L2.St} {H1 : Hp} {D : Addr} {Qd : Hp → Prop} (w : Walk J n G (fun i H x H' => H' = H ∧ item i x)) (hD : H1 D = none) (hG : ∀ H, Same H1 H → G H) (acc : Nat → List V) (h0 : acc 0 = []) (hz : ∀ i, i < n → (acc i).length < sizeLine)
    (hs : ∀ (i : Nat) (x : V) (H : Hp), i < n → item i x → Same H1 H → ∀ (R : V → Hp → Prop) (S : Hp → Prop), (∀ y H4, acc (i + 1) = acc i ++ [y] → Same H H4 → R y H4) → (∀ H3, acc (i + 1) = acc i → Same H H3 → S H3) →
      g x (wipe σ vs) H fun σ2 H2 => wipe σ2 vs = wipe σ vs ∧ tt σ2 H2 fun b H3 => if b = true then te σ2 H3 R else S H3)
    (hd : ∀ H, Same H1 H → H D = some (.lst (acc n)) → Qd H) : ∃ W : Nat → Nat → Hp → Prop, (∃ m, W 0 m (upd H1 D (.lst []))) ∧ ∀ i m H, W i m H →
      (J.stop i H ∧ Qd H) ∨ (J.go i H ∧ ∃ Nx : Hp → Prop, (∀ H', Nx H' → ∃ m', m' < m ∧ W (i + 1) m' H') ∧ ∀ x H', J.yld i H x H' → g x (wipe σ vs) H' fun σ2 H2 => wipe σ2 vs = wipe σ vs ∧ tt σ2 H2 fun b H3 =>
        if b = true then te σ2 H3 fun y H4 => ∃ acc, H4 D = some (.lst acc) ∧ acc.length < sizeLine ∧ Nx (upd H4 D (.lst (acc ++ [y]))) else Nx H3) := by
  refine lc_it w (fun i H => Same H1 H ∧ H D = some (.lst (acc i))) ⟨fun b o e => ?_, ?_⟩ (fun i H _ p => hG H p.1) ?_ (fun H p => hd H p.1 p.2)
  · rw [upd_ne (ne_of_none e hD)]
    exact e
  · rw [upd_same, h0]
  · rintro i x H H' hi ⟨s1, hl⟩ ⟨rfl, hx⟩
    refine hs i x _ hi hx s1 _ _ (fun y H4 e s2 => ⟨acc i, s2 _ _ hl, hz i hi, ⟨fun b o eb => ?_, by rw [upd_same, e]⟩⟩) (fun H3 e s2 => ⟨s1.trans s2, by rw [e]; exact s2 _ _ hl⟩)
    rw [upd_ne (ne_of_none eb hD)]
    exact s2 _ _ (s1 _ _ eb)
/-! ### texts and their bounds -/
theorem same_new {H : Hp} {q : Addr} {o : HO} (h : H q = none) : Same H (upd H q o) := fun b u e => by
  rw [upd_ne (ne_of_none e h)]
  exact e
/-- at most n signs, all of them signs -/
def sOk (n : Nat) (s : Str) : Prop := s.length ≤ n ∧ PyData.strOk s = true
theorem strOk_iff {s : Str} : PyData.strOk s = true ↔ ∀ c ∈ s.cps.toList, c < 0x110000 := by
  unfold PyData.strOk
  rw [Array.all_eq_true']
  constructor
  · intro h c hc
    exact of_decide_eq_true (h c (by simpa using hc))
  · intro h c hc
    exact decide_eq_true (h c (by simpa using hc))
theorem sOk.mono {n m : Nat} {s : Str} (h : sOk n s) (e : n ≤ m) : sOk m s := ⟨Nat.le_trans h.1 e, h.2⟩
theorem sOk.app {n m : Nat} {a b : Str} (h : sOk n a) (k : sOk m b) : sOk (n + m) (a ++ b) := by
  refine ⟨?_, strOk_iff.mpr fun c hc => ?_⟩
  · rw [Str.length_append]
    exact Nat.add_le_add h.1 k.1
  · rw [Str.cps_append, Array.toList_append] at hc
    rcases List.mem_append.mp hc with q | q
    · exact strOk_iff.mp h.2 c q
    · exact strOk_iff.mp k.2 c q
theorem sOk.cut {n : Nat} {a : Str} (h : sOk n a) (lo hi : Option Int) : sOk n (cutS a lo hi) := by
  refine ⟨Nat.le_trans (cutS_length _ _ _) h.1, strOk_iff.mpr fun c hc => ?_⟩
  unfold cutS at hc
  have hc' : c ∈ a.cps.toList := List.mem_of_mem_drop (List.mem_of_mem_take (by simpa using hc))
  exact strOk_iff.mp h.2 c hc'
theorem joinL_nil : ∀ ps : List (List Nat), TL.joinL [] ps = ps.flatten
  | [] => rfl
  | [p] => by simp [TL.joinL]
  | p :: q :: r => by
    have ih := joinL_nil (q :: r)
    simp only [TL.joinL, ih]
    simp
theorem flat_len : ∀ (ys : List Str) (n : Nat), (∀ y ∈ ys, y.length ≤ n) → ((ys.map TL.tl).flatten).length ≤ ys.length * n
  | [], _, _ => by simp
  | y :: r, n, h => by
    have ih := flat_len r n fun z hz => h z (List.mem_cons_of_mem _ hz)
    have h1 : y.length ≤ n := h y List.mem_cons_self
    have h2 : (TL.tl y).length = y.length := by simp [TL.tl, Str.length]
    simp only [List.map_cons, List.flatten_cons, List.length_append, List.length_cons, Nat.add_mul, Nat.one_mul]
    omega
theorem join_ok {ys : List Str} {n : Nat} (h : ∀ y ∈ ys, sOk n y) : sOk (ys.length * n) (Txt.join Str.empty ys) := by
  have e : TL.tl (Txt.join Str.empty ys) = (ys.map TL.tl).flatten := by
    rw [TL.join_eq, TL.tl_join]
    exact joinL_nil _
  refine ⟨?_, strOk_iff.mpr fun c hc => ?_⟩
  · have h1 : (Txt.join Str.empty ys).length = (TL.tl (Txt.join Str.empty ys)).length := by simp [TL.tl, Str.length]
    rw [h1, e]
    exact flat_len ys n fun y hy => (h y hy).1
  · have hc' : c ∈ TL.tl (Txt.join Str.empty ys) := hc
    rw [e] at hc'
    obtain ⟨l, hl, hcl⟩ := List.mem_flatten.mp hc'
    obtain ⟨y, hy, rfl⟩ := List.mem_map.mp hl
    exact strOk_iff.mp (h y hy).2 c hcl
theorem sum_le : ∀ (ys : List Str) (n : Nat), (∀ y ∈ ys, y.length ≤ n) → (ys.map (·.length)).sum ≤ ys.length * n
  | [], _, _ => by simp
  | y :: r, n, h => by
    have ih := sum_le r n fun z hz => h z (List.mem_cons_of_mem _ hz)
    have h1 : y.length ≤ n := h y List.mem_cons_self
    simp only [List.map_cons, List.sum_cons, List.length_cons, Nat.add_mul, Nat.one_mul]
    omega
/-- an item at an open place within -/
theorem atI_in {α : Type} {xs : List α} {z : Int} (h0 : 0 ≤ z) (h1 : z < xs.length) : ∃ v, atI xs z = some v ∧ v ∈ xs := by
  obtain ⟨j, rfl⟩ := Int.eq_ofNat_of_zero_le h0
  have hj : j < xs.length := by omega
  exact ⟨xs[j], atI_nat (List.getElem?_eq_getElem hj), List.getElem_mem hj⟩
theorem op_mul_str {X : Cx} : OpR X (binaryOp .Mult) (fun x y H Q => ∃ z n, x = .str z ∧ y = .int n ∧ MulOk z n ∧ Q (.str (Txt.mul z n)) H) := by
  intro pins s σ H x y v u Q I rx ry h
  obtain ⟨z, n, rfl, rfl, hz, q⟩ := h
  obtain ⟨t, rfl⟩ := rx
  obtain ⟨t', rfl⟩ := ry
  exact SB.mul hz fun t' tk => ⟨.str (Txt.mul z n), H, I.tok _, ⟨_, rfl⟩, q⟩
theorem BoxIn.low {H0 H1 H : Hp} {p : Addr} {n : Nat} (b : BoxIn H1 H p n) (s : Same H0 H1) : BoxIn H0 H p n := ⟨s.trans b.same, s.free b.free, b.box⟩
theorem BoxIn.mut {H0 H : Hp} {p D : Addr} {n : Nat} {o : HO} (b : BoxIn H0 H p n) (h1 : D ≠ p) (h2 : H0 D = none) : BoxIn H0 (upd H D o) p n := by
  obtain ⟨d, s', c, h, hh⟩ := b.box
  refine ⟨fun x u e => ?_, b.free, d, s', c, by rw [upd_ne h1.symm]; exact h, hh⟩
  rw [upd_ne (ne_of_none e h2)]
  exact b.same _ _ e
/-- what a def draws: Good of the value, with what is known then -/
def sp_draw (c : Nat) (Good : Hp → V → Prop) : Sp := fun vs H Q _ => ∃ (H0 : Hp) (p : Addr) (n : Nat), vs = [.ref p] ∧ BoxIn H0 H p n ∧ n + c < 1000000 ∧ ∀ (H1 H' : Hp) (v : V), Same H0 H1 → BoxIn H1 H' p (n + c) → Good H1 v → Q v H'
/-! ### the mirror -/
def intO (o : Option PyData) : Bool := isT "int" o && !isT "bool" o
def limO (o : Option PyData) : Bool := nonO o || intO o
def okSign (c : Nat) : Bool := !decide (([c] : List Nat) < [97]) && !decide (([122] : List Nat) < [c])
def nameS (s : Str) : Bool := !(s == ("table" : Str)) && (decide ((1 : Int) ≤ s.length) && (decide ((s.length : Int) ≤ 8) && s.cps.toList.all okSign))
def nameO : Option PyData → Bool
  | some (.str s) => nameS s
  | _ => false
def ltO : PyData → PyData → Bool
  | .int i, .int j => decide (i < j)
  | _, _ => true
def spanO : Option PyData → Bool
  | some (.tuple [l, h]) => limO (some l) && (limO (some h) && ltO l h)
  | _ => false
theorem spanO_no {ds : List PyData} (h : ds.length ≠ 2) : spanO (some (.tuple ds)) = false := by
  match ds, h with
  | [], _ => rfl
  | [_], _ => rfl
  | [_, _], hl => exact absurd rfl hl
  | _ :: _ :: _ :: _, _ => rfl
theorem dp_two {K : PySem.W.Frag} {H : Hp} {xs : List V} {ds : List PyData} (h : DpAll K H xs ds) (e : xs.length = 2) : ∃ x y d e, xs = [x, y] ∧ ds = [d, e] ∧ Dp K H x d ∧ Dp K H y e := by
  match xs, ds, h, e with
  | [x, y], [d, e], .cons h1 (.cons h2 .nil), _ => exact ⟨x, y, d, e, rfl, rfl, h1, h2⟩
theorem spanO_ty {o : Option PyData} (e : isT "tuple" o = false) : spanO o = false := by
  rcases o with _ | d
  · rfl
  · cases d with
    | tuple s => cases e
    | _ => rfl
theorem nameO_no {o : Option PyData} (e : isT "str" o = false) : nameO o = false := by
  rcases o with _ | d
  · rfl
  · cases d with
    | str s => cases e
    | _ => rfl
theorem VD.str_of {K : PySem.W.Frag} {H : Hp} {v : V} {o : Option PyData} (hv : VD K H v o) (e : isT "str" o = true) : ∃ s, v = .str s ∧ o = some (.str s) ∧ s.length ≤ 1000 ∧ PyData.strOk s = true := by
  cases hv with
  | dat a b c =>
    cases a with
    | str s =>
      have := (shaped_iff.mp b).1
      simp only [PyData.canLay0] at this
      exact ⟨s, rfl, rfl, c s rfl, this⟩
    | _ => cases e
  | dic a => cases e
theorem VD.tup_of {K : PySem.W.Frag} {H : Hp} {v : V} {o : Option PyData} (hv : VD K H v o) (e : isT "tuple" o = true) : ∃ a xs ds, v = .ref a ∧ o = some (.tuple ds) ∧ SqT K H a xs ∧ DpAll K H xs ds ∧ SeqAt.shaped (.tuple ds) = true := by
  cases hv with
  | dat a b c =>
    cases a with
    | tup h1 h2 => exact ⟨_, _, _, rfl, rfl, h1, h2, b⟩
    | _ => cases e
  | dic a => cases e
theorem strOk_mem {s : Str} (h : PyData.strOk s = true) {c : Nat} (hc : c ∈ s.cps.toList) : c < 0x110000 := by
  unfold PyData.strOk at h
  rw [Array.all_eq_true'] at h
  exact of_decide_eq_true (h c (by simpa using hc))
theorem strOk_sign {c : Nat} (h : c < 0x110000) : PyData.strOk ⟨#[c]⟩ = true := by
  unfold PyData.strOk
  simp
  omega
/-- the values that are no limits -/
def filt : List V → List PyData → List V
  | x :: xs, d :: ds => if limO (some d) = true then filt xs ds else x :: filt xs ds
  | _, _ => []
theorem filt_len : ∀ (xs : List V) (ds : List PyData), (filt xs ds).length ≤ xs.length
  | [], _ => by simp [filt]
  | _ :: _, [] => by simp [filt]
  | x :: xs, d :: ds => by
    have ih := filt_len xs ds
    simp only [filt]
    split
    · simp only [List.length_cons]
      omega
    · simp only [List.length_cons]
      omega
theorem filt_step : ∀ {xs : List V} {ds : List PyData} {i : Nat} {x : V} {d : PyData}, xs[i]? = some x → ds[i]? = some d → filt (xs.take (i + 1)) (ds.take (i + 1)) = if limO (some d) = true then filt (xs.take i) (ds.take i) else filt (xs.take i) (ds.take i) ++ [x]
  | [], _, _, _, _, h, _ => by simp at h
  | _ :: _, [], _, _, _, _, h => by simp at h
  | y :: ys, e :: es, 0, x, d, h1, h2 => by
    cases h1
    cases h2
    simp [filt]
  | y :: ys, e :: es, i + 1, x, d, h1, h2 => by
    have ih := filt_step (xs := ys) (ds := es) (i := i) (x := x) (d := d) (by simpa using h1) (by simpa using h2)
    simp only [List.take_succ_cons, filt, ih]
    split <;> split <;> simp
theorem filt_dp {K : PySem.W.Frag} {H : Hp} : ∀ {xs : List V} {ds : List PyData}, DpAll K H xs ds → DpAll K H (filt xs ds) (ds.filter fun d => !limO (some d))
  | _, _, .nil => by simp [filt]; exact .nil
  | _, _, .cons (v := v) (d := d) a b => by
    have ih := filt_dp b
    simp only [filt]
    cases h : limO (some d) with
    | true =>
      simp [h]
      exact ih
    | false =>
      simp [h]
      exact .cons a ih
theorem okSign_is (c : Nat) : okSign c = decide (c ∈ ("abcdefghijklmnopqrstuvwxyz" : Str).cps.toList) := by
  have e : ("abcdefghijklmnopqrstuvwxyz" : Str).cps.toList = [97, 98, 99, 100, 101, 102, 103, 104, 105, 106, 107, 108, 109, 110, 111, 112, 113, 114, 115, 116, 117, 118, 119, 120, 121, 122] := by decide +kernel
  rw [e]
  unfold okSign
  rw [Bool.eq_iff_iff, Bool.and_eq_true, decide_eq_true_iff, Bool.not_eq_true', Bool.not_eq_true', decide_eq_false_iff_not, decide_eq_false_iff_not]
  simp only [List.cons_lt_cons_iff, List.not_lt_nil, and_false, or_false, List.mem_cons, List.not_mem_nil]
  omega
def sp_v1 (K : PySem.W.Frag) (f : Option PyData → Bool) : Sp := fun vs H Q _ => ∃ (v : V) (o : Option PyData), vs = [v] ∧ VD K H v o ∧ ∀ H', Same H H' → Q (.bl (f o)) H'
/-- the same without a word on the heap: nothing is made -/
def sp_v0 (K : PySem.W.Frag) (f : Option PyData → Bool) : Sp := fun vs H Q _ => ∃ (v : V) (d : PyData), vs = [v] ∧ Dp K H v d ∧ Q (.bl (f (some d))) H
def sp_vO (K : PySem.W.Frag) (f : Option PyData → Bool) : Sp := fun vs H Q _ => ∃ (v : V) (o : Option PyData), vs = [v] ∧ TyX K H v (.type (tyO o)) ∧ decide (v = .non) = nonO o ∧ Q (.bl (f o)) H
theorem dp_vO {K : PySem.W.Frag} {H : Hp} {v : V} {d : PyData} (h : Dp K H v d) : TyX K H v (.type (tyO (some d))) ∧ decide (v = .non) = nonO (some d) := by
  refine ⟨dp_ty h, ?_⟩
  cases h <;> rfl
theorem vd_vO {K : PySem.W.Frag} {H : Hp} {v : V} {o : Option PyData} (h : VD K H v o) : TyX K H v (.type (tyO o)) ∧ decide (v = .non) = nonO o := ⟨h.ty, vd_non h⟩
/-! ### spans as two limits -/
abbrev Span := Option Int × Option Int
def limV : Option Int → V
  | none => .non
  | some i => .int i
def limD : Option Int → PyData
  | none => .none
  | some i => .int i
def okS : Span → Bool
  | (some l, some h) => decide (l < h)
  | _ => true
def spD (s : Span) : PyData := .tuple [limD s.1, limD s.2]
def spV (s : Span) : List V := [limV s.1, limV s.2]
def loB (l : Option Int) (k : Int) : Bool := match l with | none => true | some i => decide (i ≤ k)
def hiB (h : Option Int) (k : Int) : Bool := match h with | none => true | some i => decide (k < i)
def inS (s : Span) (k : Int) : Bool := loB s.1 k && hiB s.2 k
def maxO : Option Int → Option Int → Option Int
  | none, b => b
  | a, none => a
  | some a, some b => some (max a b)
def minO : Option Int → Option Int → Option Int
  | none, b => b
  | a, none => a
  | some a, some b => some (min a b)
def comS (s t : Span) : Span := (maxO s.1 t.1, minO s.2 t.2)
theorem spanO_ok (s : Span) : spanO (some (spD s)) = okS s := by
  obtain ⟨l, h⟩ := s
  cases l <;> cases h <;> rfl
theorem limO_of {d : PyData} (h : limO (some d) = true) : ∃ l, d = limD l := by
  cases d with
  | none => exact ⟨none, rfl⟩
  | int i => exact ⟨some i, rfl⟩
  | _ => cases h
theorem spanO_of {o : Option PyData} (h : spanO o = true) : ∃ s, o = some (spD s) ∧ okS s = true := by
  rcases o with _ | d
  · cases h
  · cases d with
    | tuple ds =>
      by_cases e : ds.length = 2
      · match ds, e with
        | [a, b], _ =>
          have h' : (limO (some a) && (limO (some b) && ltO a b)) = true := h
          rw [Bool.and_eq_true, Bool.and_eq_true] at h'
          obtain ⟨l, rfl⟩ := limO_of h'.1
          obtain ⟨u, rfl⟩ := limO_of h'.2.1
          exact ⟨(l, u), rfl, (spanO_ok (l, u)).symm.trans h⟩
      · rw [spanO_no e] at h
        cases h
    | _ => cases h
theorem dp_lim {K : PySem.W.Frag} {H : Hp} (l : Option Int) : Dp K H (limV l) (limD l) := by
  cases l with
  | none => exact .non
  | some i => exact .int i
theorem limD_inj {l u : Option Int} (h : limD l = limD u) : l = u := by
  cases l <;> cases u <;> cases h <;> rfl
theorem lim_of_dp {K : PySem.W.Frag} {H : Hp} {v : V} {l : Option Int} (h : Dp K H v (limD l)) : v = limV l := by
  cases l with
  | none => cases h; rfl
  | some i => cases h; rfl
theorem dpAll_spV {K : PySem.W.Frag} {H : Hp} (s : Span) : DpAll K H (spV s) [limD s.1, limD s.2] := .cons (dp_lim _) (.cons (dp_lim _) .nil)
theorem shaped_sp (s : Span) : SeqAt.shaped (spD s) = true := by
  obtain ⟨l, h⟩ := s
  cases l <;> cases h <;> rfl
theorem vd_sp {K : PySem.W.Frag} {H : Hp} {a : Addr} {s : Span} (h : SqT K H a (spV s)) : VD K H (.ref a) (some (spD s)) := .dat (.tup h (dpAll_spV s)) (shaped_sp s) fun x e => by cases e
theorem VD.sp {K : PySem.W.Frag} {H : Hp} {v : V} {s : Span} (h : VD K H v (some (spD s))) : ∃ a, v = .ref a ∧ SqT K H a (spV s) := by
  cases h with
  | dat d _ _ =>
    cases d with
    | tup h1 h2 =>
      cases h2 with
      | cons a b =>
        cases b with
        | cons c e =>
          cases e
          rw [lim_of_dp a, lim_of_dp c] at h1
          exact ⟨_, rfl, h1⟩
theorem intO_of {K : PySem.W.Frag} {H : Hp} {v : V} {o : Option PyData} (h : VD K H v o) (e : intO o = true) : ∃ i, v = .int i ∧ o = some (.int i) := by
  cases h with
  | dat a _ _ =>
    cases a with
    | int i => exact ⟨i, rfl, rfl⟩
    | _ => cases e
  | dic a => cases e
/-! ### what is raised -/
/-- an exception of the class at C leaves, with v as its field f -/
def Rz (H : Hp) (E : XK) (C : Addr) (f : Str) (v : V) : Prop := ∀ (d : Addr) (H' : Hp), H d = none → H' d = some (.xd [(f, v)]) → Same H H' → E (.ref C) (some d) H'
theorem Rz.back {H H1 : Hp} {E : XK} {C : Addr} {f : Str} {v : V} (s : Same H H1) (h : Rz H E C f v) : Rz H1 E C f v := fun d H' n x k => h d H' (s.free n) x (s.trans k)
/-- X.__init__: the one field -/
def sp_xinit (K : PySem.W.Frag) (C : Addr) (f : Str) : Sp := fun vs H Q _ => ∃ (a : Addr) (v : V), vs = [.ref a, v] ∧ OexC K C ∧ PySem.W.findIn K (.ref C) f = some none ∧ H a = some (exo a C none) ∧ ∀ dx, H dx = none → dx ≠ a → Q .non (upd (upd H dx (exd dx [(f, v)])) a (exo a C (some dx)))
/-- the reading of «raise X(v)» -/
theorem raise_x {K : PySem.W.Frag} {H : Hp} {E : XK} {C : Addr} {f : Str} {v : V} (x : OexC K C) (n : PySem.W.findIn K (.ref C) f = some none) (h : Rz H E C f v) : ([v] : List V).length ≤ 1000 ∧ ∀ a, H a = none → sp_xinit K C f (.ref a :: ([v] ++ [])) (upd H a (exo a C none))
    (fun v' H2 => v' = .non ∧ ∃ (d : Addr) (fs : List (Str × V)), H2 a = some (exo a C (some d)) ∧ H2 d = some (exd d fs) ∧ H d = none ∧ E (.ref C) (some d) (upd (del H2 a) d (.xd fs))) (fun _ _ _ => False) := by
  refine ⟨by show 1 ≤ 1000; decide, fun a ha => ⟨a, v, rfl, x, n, upd_same, fun dx hdx ne => ⟨rfl, dx, [(f, v)], upd_same, by rw [upd_ne ne, upd_same], ?_, ?_⟩⟩⟩
  · rw [upd_ne ne] at hdx
    exact hdx
  · rw [upd_ne ne] at hdx
    refine h dx _ hdx upd_same fun b o e => ?_
    have nb : b ≠ a := ne_of_none e ha
    have nd : b ≠ dx := ne_of_none e hdx
    rw [upd_ne nd, del_ne nb, upd_ne nb, upd_ne nd, upd_ne nb]
    exact e
/-! ### promises -/
def sp_req (K : PySem.W.Frag) (f : Option PyData → Bool) (C : Addr) (fld : Str) : Sp := fun vs H Q E => ∃ (v : V) (o : Option PyData), vs = [v] ∧ VD K H v o ∧ (f o = true → ∀ H', Same H H' → Q .non H') ∧ (f o = false → Rz H E C fld v)
def sp_in_span (K : PySem.W.Frag) (CS CK : Addr) : Sp := fun vs H Q E => ∃ (x y : V) (o o2 : Option PyData), vs = [x, y] ∧ VD K H x o ∧ VD K H y o2 ∧ (spanO o = false → Rz H E CS "value" x) ∧ (spanO o = true → intO o2 = false → Rz H E CK "value" y) ∧
  ∀ (s : Span) (k : Int), o = some (spD s) → okS s = true → o2 = some (.int k) → ∀ H', Same H H' → Q (.bl (inS s k)) H'
def sp_common (K : PySem.W.Frag) (CS : Addr) : Sp := fun vs H Q E => ∃ (x y : V) (o o2 : Option PyData), vs = [x, y] ∧ VD K H x o ∧ VD K H y o2 ∧ (spanO o = false → Rz H E CS "value" x) ∧ (spanO o = true → spanO o2 = false → Rz H E CS "value" y) ∧
  ∀ (s t : Span), o = some (spD s) → okS s = true → o2 = some (spD t) → okS t = true → (okS (comS s t) = true → ∀ p H', Same H H' → H p = none → H' p = some (.tup (spV (comS s t))) → Q (.ref p) H') ∧ (okS (comS s t) = false → ∀ H', Same H H' → Q .non H')
def sp_meet (K : PySem.W.Frag) (CS : Addr) : Sp := fun vs H Q E => ∃ (x y : V) (o o2 : Option PyData), vs = [x, y] ∧ VD K H x o ∧ VD K H y o2 ∧ (spanO o = false → Rz H E CS "value" x) ∧ (spanO o = true → spanO o2 = false → Rz H E CS "value" y) ∧
  ∀ (s t : Span), o = some (spD s) → okS s = true → o2 = some (spD t) → okS t = true → ∀ H', Same H H' → Q (.bl (okS (comS s t))) H'
def lowsL (a b : Option Int) : List Int := (a.toList ++ b.toList)
theorem limV_non (l : Option Int) : decide (limV l = .non) = l.isNone := by
  cases l <;> rfl
theorem max_none {a b : Option Int} (e : lowsL a b = []) : V.non = limV (maxO a b) := by
  cases a <;> cases b <;> first | rfl | cases e
theorem min_none {a b : Option Int} (e : lowsL a b = []) : V.non = limV (minO a b) := by
  cases a <;> cases b <;> first | rfl | cases e
theorem max_some {a b : Option Int} {m : Int} (h1 : m ∈ lowsL a b) (h2 : ∀ n ∈ lowsL a b, n ≤ m) : V.int m = limV (maxO a b) := by
  cases a with
  | none =>
    cases b with
    | none => cases h1
    | some y =>
      obtain rfl : m = y := by simpa [lowsL] using h1
      rfl
  | some x =>
    cases b with
    | none =>
      obtain rfl : m = x := by simpa [lowsL] using h1
      rfl
    | some y =>
      have hx := h2 x (by simp [lowsL])
      have hy := h2 y (by simp [lowsL])
      have hm : m = x ∨ m = y := by simpa [lowsL] using h1
      show V.int m = V.int (max x y)
      congr 1
      omega
theorem min_some {a b : Option Int} {m : Int} (h1 : m ∈ lowsL a b) (h2 : ∀ n ∈ lowsL a b, m ≤ n) : V.int m = limV (minO a b) := by
  cases a with
  | none =>
    cases b with
    | none => cases h1
    | some y =>
      obtain rfl : m = y := by simpa [lowsL] using h1
      rfl
  | some x =>
    cases b with
    | none =>
      obtain rfl : m = x := by simpa [lowsL] using h1
      rfl
    | some y =>
      have hx := h2 x (by simp [lowsL])
      have hy := h2 y (by simp [lowsL])
      have hm : m = x ∨ m = y := by simpa [lowsL] using h1
      show V.int m = V.int (min x y)
      congr 1
      omega
/-! ### texts of whole numbers -/
abbrev tl := TL.tl
def isDig (c : Nat) : Bool := decide (48 ≤ c) && decide (c ≤ 57)
def sgn (w : List Nat) : Bool × List Nat := match w with
  | 45 :: r => (true, r)
  | _ => (false, w)
def digOk (r : List Nat) : Bool := decide (1 ≤ r.length) && (decide (r.length ≤ 30) && r.all isDig)
def zeroed (w : List Nat) : Bool := ((sgn w).2.head? == some 48) && !(w == [48])
def worth (w : List Nat) : Int := if (sgn w).1 = true then -((NumText.digitsVal (sgn w).2 : Nat) : Int) else ((NumText.digitsVal (sgn w).2 : Nat) : Int)
/-- the number that a text is, if it is one's -/
def numO (w : List Nat) : Option Int := if (digOk (sgn w).2 && !zeroed w) = true then some (worth w) else none
theorem allDig {r : List Nat} : r.all isDig = true ↔ NumText.AllDigits r := by
  unfold NumText.AllDigits
  simp [isDig, List.all_eq_true]
theorem snocInd {P : List Nat → Prop} (h0 : P []) (h1 : ∀ r c, P r → P (r ++ [c])) (r : List Nat) : P r := by
  have : ∀ n (r : List Nat), r.length = n → P r := by
    intro n
    induction n with
    | zero => intro r h; cases r with
      | nil => exact h0
      | cons a r => cases h
    | succ n ih =>
      intro r h
      have hr : r ≠ [] := fun z => by rw [z] at h; cases h
      rw [← List.dropLast_concat_getLast hr]
      exact h1 _ _ (ih _ (by rw [List.length_dropLast, h]; rfl))
  exact this _ r rfl
theorem val_snoc (r : List Nat) (c : Nat) : NumText.digitsVal (r ++ [c]) = NumText.digitsVal r * 10 + (c - 48) := by
  unfold NumText.digitsVal
  rw [List.foldl_append]
  rfl
theorem num_head {n : Nat} (h : 0 < n) : (TL.numL n).head? ≠ some 48 := by
  induction n using Nat.strongRecOn with
  | _ n ih =>
    by_cases h10 : n < 10
    · rw [TL.numL_lt h10]
      simp
      omega
    · rw [TL.numL_step (by omega)]
      have e := ih (n / 10) (by omega) (by omega)
      cases hn : TL.numL (n / 10) with
      | nil => exact absurd hn (TL.numL_ne _)
      | cons a r =>
        rw [hn] at e
        exact e
theorem val_pos : ∀ (r : List Nat), NumText.AllDigits r → r.head? ≠ some 48 → r ≠ [] → 0 < NumText.digitsVal r := by
  refine snocInd ?_ ?_
  · intro _ _ h
    exact absurd rfl h
  · intro r c ih hd hh _
    rw [val_snoc]
    cases r with
    | nil =>
      have h1 := hd c (by simp)
      have h2 : c ≠ 48 := fun e => hh (by rw [e]; rfl)
      omega
    | cons a r =>
      have := ih (fun x hx => hd x (List.mem_append_left _ hx)) hh (by simp)
      omega
theorem num_back : ∀ (r : List Nat), NumText.AllDigits r → r ≠ [] → (r.head? ≠ some 48 ∨ r = [48]) → TL.numL (NumText.digitsVal r) = r := by
  refine snocInd ?_ ?_
  · intro _ h
    exact absurd rfl h
  · intro r c ih hd _ hh
    have hc := hd c (by simp)
    rw [val_snoc]
    cases r with
    | nil =>
      have e : NumText.digitsVal [] * 10 + (c - 48) = c - 48 := by
        show 0 * 10 + (c - 48) = c - 48
        omega
      rw [e, TL.numL_lt (by omega)]
      show [48 + (c - 48)] = [c]
      congr 1
      omega
    | cons a r =>
      have hd' : NumText.AllDigits (a :: r) := fun x hx => hd x (List.mem_append_left _ hx)
      have hh' : (a :: r).head? ≠ some 48 := by
        rcases hh with h | h
        · exact h
        · simp at h
      have hp := val_pos (a :: r) hd' hh' (by simp)
      have hi := ih hd' (by simp) (.inl hh')
      rw [TL.numL_step (by omega)]
      have e1 : (NumText.digitsVal (a :: r) * 10 + (c - 48)) / 10 = NumText.digitsVal (a :: r) := by omega
      have e2 : 48 + (NumText.digitsVal (a :: r) * 10 + (c - 48)) % 10 = c := by omega
      rw [e1, e2, hi]
theorem num_zero {n : Nat} (h : (TL.numL n).head? = some 48) : TL.numL n = [48] := by
  by_cases hn : 0 < n
  · exact absurd h (num_head hn)
  · obtain rfl : n = 0 := by omega
    exact TL.numL_lt (by decide)
/-- the signs of str(i) -/
def intL (i : Int) : List Nat := if i < 0 then 45 :: TL.numL i.natAbs else TL.numL i.natAbs
theorem tl_int (i : Int) : tl (Str.ofString (toString i)) = intL i := by
  cases i with
  | ofNat n =>
    have : intL (Int.ofNat n) = TL.numL n := by
      unfold intL
      rw [if_neg (by simp)]
      rfl
    rw [this]
    exact TL.tl_num n
  | negSucc n =>
    have e1 : intL (Int.negSucc n) = 45 :: TL.numL (n + 1) := by
      unfold intL
      rw [if_pos (Int.negSucc_lt_zero n)]
      rfl
    have e2 : (toString (Int.negSucc n) : String) = "-" ++ toString (n + 1) := rfl
    rw [e1, e2]
    show (Str.ofString ("-" ++ toString (n + 1))).cps.toList = _
    rw [Str.ofString_eq_toList]
    show (("-" ++ toString (n + 1)).toList.map Char.toNat) = _
    rw [String.toList_append, List.map_append]
    have e3 := TL.tl_num (n + 1)
    have e4 : TL.tl (Str.ofString (toString (((n + 1 : Nat)) : Int))) = ((toString (n + 1)).toList.map Char.toNat) := by
      show (Str.ofString (toString (n + 1))).cps.toList = _
      rw [Str.ofString_eq_toList]
    rw [e4] at e3
    rw [e3]
    rfl
theorem sgn_cases (w : List Nat) : (∃ r, w = 45 :: r ∧ sgn w = (true, r)) ∨ (w.head? ≠ some 45 ∧ sgn w = (false, w)) := by
  cases w with
  | nil => exact .inr ⟨by simp, rfl⟩
  | cons c r =>
    by_cases h : c = 45
    · subst h
      exact .inl ⟨r, rfl, rfl⟩
    · refine .inr ⟨by simpa using h, ?_⟩
      unfold sgn
      split
      · rename_i heq
        injection heq with h1 _
        exact absurd h1 h
      · rfl
theorem digOk_iff {r : List Nat} : digOk r = true ↔ 1 ≤ r.length ∧ r.length ≤ 30 ∧ NumText.AllDigits r := by
  unfold digOk
  rw [Bool.and_eq_true, Bool.and_eq_true, decide_eq_true_iff, decide_eq_true_iff, allDig]
/-- int(w), digits with a sign or none -/
theorem int_of {x : Str} (h : digOk (sgn (tl x)).2 = true) : PySem.intText? x = some (worth (tl x)) := by
  obtain ⟨h1, h2, h3⟩ := digOk_iff.mp h
  have hx : x.length = (tl x).length := TL.len_tl x
  rcases sgn_cases (tl x) with ⟨r, e, e2⟩ | ⟨_, e2⟩
  · rw [e2] at h1 h2 h3
    have hr : r ≠ [] := fun z => by rw [z] at h1; simp at h1
    have := PySem.intText_neg (x := x) e h3 hr (by have h4 : r.length ≤ 30 := h2; rw [hx, e, List.length_cons]; omega)
    rw [this]
    unfold worth
    rw [e2]
    rfl
  · rw [e2] at h1 h2 h3
    have hr : tl x ≠ [] := fun z => by rw [z] at h1; simp at h1
    have := PySem.intText_digits (x := x) h3 hr (by have h4 : (tl x).length ≤ 30 := h2; rw [hx]; omega)
    rw [this]
    unfold worth
    rw [e2]
    rfl
/-- it is written back just if no zero is needless -/
theorem back_iff {w : List Nat} (h : digOk (sgn w).2 = true) : (intL (worth w) = w) ↔ zeroed w = false := by
  obtain ⟨h1, h2, h3⟩ := digOk_iff.mp h
  rcases sgn_cases w with ⟨r, e, e2⟩ | ⟨hh, e2⟩
  · rw [e2] at h1 h2 h3
    have hr : r ≠ [] := fun z => by rw [z] at h1; simp at h1
    have ew : worth w = -((NumText.digitsVal r : Nat) : Int) := by unfold worth; rw [e2]; rfl
    have ez : zeroed w = (r.head? == some 48) := by
      unfold zeroed
      rw [e2, e]
      cases r with
      | nil => exact absurd rfl hr
      | cons a b => simp
    rw [ew, ez]
    by_cases hz : r.head? = some 48
    · constructor
      · intro hb
        exfalso
        unfold intL at hb
        by_cases hn : -((NumText.digitsVal r : Nat) : Int) < 0
        · rw [if_pos hn, e] at hb
          injection hb with _ hb
          have e3 : (-((NumText.digitsVal r : Nat) : Int)).natAbs = NumText.digitsVal r := by omega
          rw [e3] at hb
          have hp : 0 < NumText.digitsVal r := by omega
          exact num_head hp (by rw [hb]; exact hz)
        · have h0 : NumText.digitsVal r = 0 := by omega
          rw [if_neg hn, h0, e] at hb
          have : TL.numL 0 = [48] := TL.numL_lt (by decide)
          rw [show (-((0 : Nat) : Int)).natAbs = 0 from rfl, this] at hb
          injection hb with hb _
          cases hb
      · intro hb
        rw [hz] at hb
        cases hb
    · constructor
      · intro _
        simpa using hz
      · intro _
        have hp := val_pos r h3 hz hr
        unfold intL
        rw [if_pos (by omega)]
        have e3 : (-((NumText.digitsVal r : Nat) : Int)).natAbs = NumText.digitsVal r := by omega
        rw [e3, num_back r h3 hr (.inl hz), e]
  · rw [e2] at h1 h2 h3
    have hr : w ≠ [] := fun z => by rw [z] at h1; simp at h1
    have ew : worth w = ((NumText.digitsVal w : Nat) : Int) := by unfold worth; rw [e2]; rfl
    have ei : intL (worth w) = TL.numL (NumText.digitsVal w) := by
      rw [ew]
      unfold intL
      rw [if_neg (by omega)]
      rfl
    have ez : zeroed w = ((w.head? == some 48) && !(w == [48])) := by unfold zeroed; rw [e2]
    rw [ei, ez]
    by_cases hz : w.head? = some 48
    · constructor
      · intro hb
        have := num_zero (n := NumText.digitsVal w) (by rw [hb]; exact hz)
        rw [hb] at this
        rw [this]
        rfl
      · intro hb
        rw [hz] at hb
        have hw : w = [48] := by simpa using hb
        exact num_back w h3 hr (.inr hw)
    · constructor
      · intro _
        simp [hz]
      · intro _
        exact num_back w h3 hr (.inl hz)
/-- what str writes is read back -/
theorem intL_digits (i : Int) : NumText.AllDigits (sgn (intL i)).2 ∧ (sgn (intL i)).2 ≠ [] := by
  unfold intL
  split
  · exact ⟨TL.numL_digits _, TL.numL_ne _⟩
  · rcases sgn_cases (TL.numL i.natAbs) with ⟨r, e, _⟩ | ⟨_, e2⟩
    · exact absurd (show 45 ∈ TL.numL i.natAbs by rw [e]; exact List.mem_cons_self) (TL.numL_free (.inl (by decide)))
    · rw [e2]
      exact ⟨TL.numL_digits _, TL.numL_ne _⟩
theorem worth_intL (i : Int) : worth (intL i) = i := by
  unfold intL
  split
  · show -((NumText.digitsVal (TL.numL i.natAbs) : Nat) : Int) = i
    rw [TL.numL_val]
    omega
  · rcases sgn_cases (TL.numL i.natAbs) with ⟨r, e, _⟩ | ⟨_, e2⟩
    · exact absurd (show 45 ∈ TL.numL i.natAbs by rw [e]; exact List.mem_cons_self) (TL.numL_free (.inl (by decide)))
    · unfold worth
      rw [e2]
      show ((NumText.digitsVal (TL.numL i.natAbs) : Nat) : Int) = i
      rw [TL.numL_val]
      omega
theorem numO_intL {i : Int} (h : (sgn (intL i)).2.length ≤ 30) : numO (intL i) = some i := by
  obtain ⟨h1, h2⟩ := intL_digits i
  have hd : digOk (sgn (intL i)).2 = true := digOk_iff.mpr ⟨List.length_pos_iff.mpr h2, h, h1⟩
  have hz : zeroed (intL i) = false := (back_iff hd).mp (by rw [worth_intL])
  unfold numO
  rw [hd, hz, worth_intL]
  rfl
/-! ### texts of spans -/
theorem val_lt : ∀ r : List Nat, NumText.AllDigits r → NumText.digitsVal r < 10 ^ r.length := by
  refine snocInd (fun _ => by show 0 < 10 ^ 0; decide) ?_
  intro r c ih hd
  have hc := hd c (by simp)
  have h1 := ih fun x hx => hd x (List.mem_append_left _ hx)
  rw [val_snoc, List.length_append, List.length_singleton, Nat.pow_succ]
  omega
theorem log_lt {n : Nat} (h : n < 10 ^ 30) : n.log2 < 1920 := by
  by_cases h0 : n = 0
  · rw [h0]
    decide
  · exact Nat.lt_trans ((Nat.log2_lt h0).mpr (Nat.lt_trans h (show 10 ^ 30 < 2 ^ 100 by decide))) (by decide)
theorem worth_log {w : List Nat} (h : digOk (sgn w).2 = true) : (worth w).natAbs.log2 < 1920 := by
  obtain ⟨_, h2, h3⟩ := digOk_iff.mp h
  have h4 := val_lt _ h3
  have h5 : NumText.digitsVal (sgn w).2 < 10 ^ 30 := Nat.lt_of_lt_of_le h4 (Nat.pow_le_pow_right (by decide) h2)
  refine log_lt ?_
  unfold worth
  split <;> omega
theorem str_nil {w : Str} : (w == ("" : Str)) = (tl w).isEmpty := by
  cases h : tl w with
  | nil =>
    have : w = ("" : Str) := TL.ext_tl h
    rw [this]
    rfl
  | cons a r =>
    rw [beq_eq_false_iff_ne.mpr]
    · rfl
    · intro e
      rw [e] at h
      cases h
theorem minus_tl : TL.tl ("-" : Str) = [45] := by decide +kernel
theorem dots_tl : TL.tl (".." : Str) = [46, 46] := by decide +kernel
theorem rm_tl (w : Str) : tl (Txt.removeprefix w ("-" : Str)) = (sgn (tl w)).2 := by
  have hy : TL.tl ("-" : Str) ≠ [] := by rw [minus_tl]; simp
  have hat := TL.at_iff (x := w) hy 0
  rw [minus_tl, List.drop_zero] at hat
  have hl : ("-" : Str).length = 1 := by decide +kernel
  have hw := TL.len_tl w
  unfold Txt.removeprefix
  rcases sgn_cases (tl w) with ⟨r, e, e2⟩ | ⟨hh, e2⟩
  · have hp : TL.pre [45] (tl w) = true := by rw [e]; rfl
    have hs := (hat.mpr hp).2
    rw [if_pos hs, hl, e2]
    show tl (if w.length - 1 == w.length then w else PySem.Builtin.Str.strSub w 1 w.length) = r
    have hlen : w.length = r.length + 1 := by
      rw [hw]
      show (tl w).length = _
      rw [e]
      rfl
    rw [if_neg (by rw [beq_iff_eq]; omega)]
    show TL.tl _ = _
    rw [TL.tl_strSub_end]
    show (tl w).drop 1 = r
    rw [e]
    rfl
  · have hs : ¬ PySem.Builtin.Str.subAt w ("-" : Str) 0 = true := by
      intro hs
      cases hc : tl w with
      | nil =>
        have : w = ("" : Str) := TL.ext_tl hc
        rw [this] at hs
        revert hs
        decide +kernel
      | cons a r =>
        have hp := hat.mp ⟨by rw [hl, hw]; show 0 + 1 ≤ (tl w).length; rw [hc]; simp, hs⟩
        have hc' : TL.tl w = a :: r := hc
        rw [hc'] at hp
        rw [hc] at hh
        have h2 : ((a :: r).take 1 == [45]) = true := hp
        apply hh
        simpa using h2
    rw [if_neg hs, e2]
    rfl
theorem cut_head (x : Str) (i : Nat) (h : i ≤ x.length) : cutS x none (some (i : Int)) = PySem.Builtin.Str.strSub x 0 i := by
  refine TL.ext_tl ?_
  rw [TL.tl_strSub]
  unfold cutS
  rw [TL.tl_mk, HT.sIx_none, HT.sIx_nat, Nat.min_eq_left h]
theorem cut_tail (x : Str) (i : Nat) (h : i ≤ x.length) : cutS x (some (i : Int)) none = PySem.Builtin.Str.strSub x i x.length := by
  refine TL.ext_tl ?_
  rw [TL.tl_strSub]
  unfold cutS
  rw [TL.tl_mk, HT.sIx_none, HT.sIx_nat, Nat.min_eq_left h]
theorem cut_cases (x : Str) : (Txt.find x ("..") = -1 ∧ Txt.partition x ".." = (x, Str.empty, Str.empty)) ∨ ∃ i : Nat, i + 2 ≤ x.length ∧ Txt.find x ".." = (i : Int) ∧ Txt.partition x ".." = (cutS x none (some (i : Int)), (".." : Str), cutS x (some ((i : Int) + 2)) none) := by
  have hl : (".." : Str).length = 2 := by decide +kernel
  rcases PyProof.Rows.find_whole x ".." with ⟨e1, n1⟩ | ⟨i, e1, a1, n1⟩
  · rcases PyProof.Rows.partition_whole x ".." with ⟨e2, n2⟩ | ⟨j, e2, a2, n2⟩
    · exact .inl ⟨e1, e2⟩
    · exact absurd a2 (n1 j)
  · rcases PyProof.Rows.partition_whole x ".." with ⟨e2, n2⟩ | ⟨j, e2, a2, n2⟩
    · exact absurd a1 (n2 i)
    · have hij : i = j := by
        by_cases h1 : i < j
        · exact absurd a1 (n2 i h1)
        · by_cases h2 : j < i
          · exact absurd a2 (n1 j h2)
          · omega
      subst hij
      have hle := a1.1
      rw [hl] at hle e2
      refine .inr ⟨i, hle, e1, ?_⟩
      rw [e2, cut_head x i (by omega)]
      have := cut_tail x (i + 2) hle
      rw [Int.natCast_add] at this
      rw [← this]
      rfl
/-- a limit that a text is -/
def limT (w : Str) : Option (Option Int) := if (w == ("" : Str)) = true then some none else (numO (tl w)).map some
def pairO : Option (Option Int) → Option (Option Int) → Option Span
  | some a, some b => if okS (a, b) = true then some (a, b) else none
  | _, _ => none
/-- the span that a text is -/
def rdO (x : Str) : Option Span := if (Txt.find x ".." = -1) then none else pairO (limT (Txt.partition x "..").1) (limT (Txt.partition x "..").2.2)
def rdT : Option PyData → Option Span
  | some (.str x) => rdO x
  | _ => none
theorem numO_nil : numO (tl ("" : Str)) = none := by decide +kernel
/-- the number or None that the law takes -/
theorem limT_num {w : Str} {o : Option Int} (h : limT w = some o) : limV o = limV (numO (tl w)) := by
  unfold limT at h
  split at h
  · rename_i e
    have : w = ("" : Str) := by simpa using e
    cases h
    rw [this, numO_nil]
  · cases hn : numO (tl w) with
    | none => rw [hn] at h; cases h
    | some n => rw [hn] at h; cases h; rfl
theorem limT_none {w : Str} : limT w = none ↔ ((w == ("" : Str)) = false ∧ numO (tl w) = none) := by
  unfold limT
  cases e : w == ("" : Str) with
  | true => simp
  | false =>
    cases hn : numO (tl w) with
    | none => simp
    | some n => simp
def limS : Option Int → Str
  | none => ""
  | some i => Str.ofString (toString i)
def spS (s : Span) : Str := limS s.1 ++ ".." ++ limS s.2
def smO : Option Int → Prop
  | none => True
  | some i => i.natAbs < 10 ^ 30
theorem intL_len {i : Int} (h : i.natAbs < 10 ^ 30) : (sgn (intL i)).2.length ≤ 30 ∧ (intL i).length ≤ 31 := by
  have h1 := TL.numL_len (k := 30) (by decide) h
  unfold intL
  split
  · exact ⟨h1, by rw [List.length_cons]; omega⟩
  · rcases sgn_cases (TL.numL i.natAbs) with ⟨r, e, _⟩ | ⟨_, e2⟩
    · exact absurd (show 45 ∈ TL.numL i.natAbs by rw [e]; exact List.mem_cons_self) (TL.numL_free (.inl (by decide)))
    · rw [e2]
      exact ⟨h1, by omega⟩
theorem intL_mem {i : Int} {c : Nat} (h : c ∈ intL i) : c = 45 ∨ (48 ≤ c ∧ c ≤ 57) := by
  unfold intL at h
  split at h
  · rcases List.mem_cons.mp h with h | h
    · exact .inl h
    · exact .inr (TL.numL_digits _ c h)
  · exact .inr (TL.numL_digits _ c h)
theorem limS_tl (o : Option Int) : tl (limS o) = match o with | none => [] | some i => intL i := by
  cases o with
  | none => rfl
  | some i => exact tl_int i
theorem limS_ok {o : Option Int} (h : smO o) : sOk 31 (limS o) := by
  have e := limS_tl o
  cases o with
  | none => exact ⟨by decide, by decide +kernel⟩
  | some i =>
    refine ⟨?_, strOk_iff.mpr fun c hc => ?_⟩
    · rw [TL.len_tl]
      show (tl (limS (some i))).length ≤ 31
      rw [e]
      exact (intL_len h).2
    · have hc' : c ∈ tl (limS (some i)) := hc
      rw [e] at hc'
      rcases intL_mem hc' with q | q <;> omega
theorem limS_free (o : Option Int) : 46 ∉ tl (limS o) := by
  rw [limS_tl]
  cases o with
  | none => simp
  | some i =>
    intro h
    rcases intL_mem h with q | q <;> omega
theorem limS_back {o : Option Int} (h : smO o) : limT (limS o) = some o := by
  cases o with
  | none => rfl
  | some i =>
    have e : tl (limS (some i)) = intL i := tl_int i
    unfold limT
    rw [str_nil, e]
    have hd := intL_digits i
    have hn : intL i ≠ [] := fun z => by
      rw [z] at hd
      exact hd.2 rfl
    have hb : (intL i).isEmpty = false := by
      cases h2 : intL i with
      | nil => exact absurd h2 hn
      | cons a r => rfl
    rw [hb, numO_intL (intL_len h).1]
    rfl
theorem spS_cut (s : Span) : Txt.partition (spS s) ".." = (limS s.1, (".." : Str), limS s.2) := TL.partition_app (s := 46) (S := [46]) dots_tl (limS_free s.1)
theorem spS_back {s : Span} (o : okS s = true) (h1 : smO s.1) (h2 : smO s.2) : rdO (spS s) = some s := by
  unfold rdO
  rw [if_neg, spS_cut, limS_back h1, limS_back h2]
  · show (if okS (s.1, s.2) = true then some (s.1, s.2) else none) = some s
    rw [if_pos o]
  · intro e
    rcases cut_cases (spS s) with ⟨_, e2⟩ | ⟨i, _, e2, _⟩
    · rw [spS_cut] at e2
      have := congrArg (fun q => tl q.2.1) e2
      revert this
      show TL.tl (".." : Str) = [] → False
      rw [dots_tl]
      simp
    · rw [e] at e2
      omega
theorem spS_ok {s : Span} (h1 : smO s.1) (h2 : smO s.2) : sOk 64 (spS s) := by
  have := ((limS_ok h1).app (show sOk 2 (".." : Str) from ⟨by decide +kernel, by decide +kernel⟩)).app (limS_ok h2)
  exact this.mono (by decide)
theorem spS_join (s : Span) : Txt.join ".." [limS s.1, limS s.2] = spS s := by
  refine TL.ext_tl ?_
  rw [TL.join_eq, TL.tl_join]
  unfold spS
  rw [TL.tl_append, TL.tl_append, List.append_assoc]
  rfl
theorem emp_app (a : Str) : Str.empty ++ a = a := TL.ext_tl (by rw [TL.tl_append]; rfl)
theorem dig_is (c : Nat) : (!decide (([c] : List Nat) < [48]) && !decide (([57] : List Nat) < [c])) = isDig c := by
  unfold isDig
  rw [Bool.eq_iff_iff, Bool.and_eq_true, Bool.and_eq_true, decide_eq_true_iff, decide_eq_true_iff, Bool.not_eq_true', Bool.not_eq_true', decide_eq_false_iff_not, decide_eq_false_iff_not]
  simp only [List.cons_lt_cons_iff, List.not_lt_nil, and_false, or_false]
  omega
theorem dig_in (c : Nat) : decide (c ∈ ("0123456789" : Str).cps.toList) = isDig c := by
  have e : ("0123456789" : Str).cps.toList = [48, 49, 50, 51, 52, 53, 54, 55, 56, 57] := by decide +kernel
  rw [e]
  unfold isDig
  rw [Bool.eq_iff_iff, Bool.and_eq_true, decide_eq_true_iff, decide_eq_true_iff, decide_eq_true_iff]
  simp only [List.mem_cons, List.not_mem_nil, or_false]
  omega
theorem back_eq {w : Str} (h : digOk (sgn (tl w)).2 = true) : (Str.ofString (toString (worth (tl w))) == w) = !zeroed (tl w) := by
  have hb := back_iff h
  cases hz : zeroed (tl w) with
  | false =>
    have e : Str.ofString (toString (worth (tl w))) = w := TL.ext_tl (by
      show tl _ = tl _
      rw [tl_int]
      exact hb.mpr hz)
    rw [e]
    simp
  | true =>
    rw [beq_eq_false_iff_ne.mpr]
    · rfl
    · intro e
      have : intL (worth (tl w)) = tl w := by
        rw [← tl_int, e]
      have := hb.mp this
      rw [hz] at this
      cases this
theorem digOk_len {w : Str} (h : digOk (sgn (tl w)).2 = true) : w.length ≤ 31 := by
  obtain ⟨_, h2, _⟩ := digOk_iff.mp h
  have e : w.length = (tl w).length := TL.len_tl w
  rw [e]
  rcases sgn_cases (tl w) with ⟨r, e1, e2⟩ | ⟨_, e2⟩
  · rw [e2] at h2
    have h3 : r.length ≤ 30 := h2
    rw [e1, List.length_cons]
    omega
  · rw [e2] at h2
    have h3 : (tl w).length ≤ 30 := h2
    omega
/-- the cut, as the program makes it -/
theorem cut_parts (x : Str) (hx : x.length ≤ 1000) : ∃ low dots high : Str, Txt.partition x ".." = (low, dots, high) ∧ low.length ≤ 1000 ∧ high.length ≤ 1000 ∧ rdO x = if (dots == ("" : Str)) = true then none else pairO (limT low) (limT high) := by
  have he : (".." : Str) ≠ ("" : Str) := fun q => by
    have := congrArg TL.tl q
    rw [dots_tl] at this
    cases this
  rcases cut_cases x with ⟨e1, e2⟩ | ⟨i, hi, e1, e2⟩
  · refine ⟨_, _, _, e2, hx, by show 0 ≤ 1000; decide, ?_⟩
    unfold rdO
    rw [if_pos e1]
    rfl
  · refine ⟨_, _, _, e2, Nat.le_trans (cutS_length _ _ _) hx, Nat.le_trans (cutS_length _ _ _) hx, ?_⟩
    unfold rdO
    rw [if_neg (by rw [e1]; omega), e2, if_neg (by simpa using he)]
theorem minus_is (w : Str) : (cutS w none (some (1 : Int)) == ("-" : Str)) = (sgn (tl w)).1 := by
  have e : TL.tl (cutS w none (some (1 : Int))) = (tl w).take 1 := by
    unfold cutS
    rw [TL.tl_mk, HT.sIx_none, show (some (1 : Int)) = some ((1 : Nat) : Int) from rfl, HT.sIx_nat]
    show List.take (min 1 w.length - 0) (List.drop 0 (tl w)) = _
    have hw : w.length = (tl w).length := TL.len_tl w
    rw [List.drop_zero, hw]
    cases tl w with
    | nil => rfl
    | cons a r => simp
  rcases sgn_cases (tl w) with ⟨r, e1, e2⟩ | ⟨hh, e2⟩
  · rw [e2]
    have : cutS w none (some (1 : Int)) = ("-" : Str) := TL.ext_tl (by rw [e, e1, minus_tl]; rfl)
    rw [this]
    show (("-" : Str) == ("-" : Str)) = true
    decide +kernel
  · rw [e2]
    refine beq_eq_false_iff_ne.mpr fun q => hh ?_
    have := congrArg TL.tl q
    rw [e, minus_tl] at this
    cases h : tl w with
    | nil => rw [h] at this; cases this
    | cons a r =>
      rw [h] at this
      simpa using this
theorem cut1_tl (w : Str) (h : (sgn (tl w)).1 = true) : tl (cutS w (some (1 : Int)) none) = (sgn (tl w)).2 := by
  rcases sgn_cases (tl w) with ⟨r, e1, e2⟩ | ⟨hh, e2⟩
  · have hw : w.length = (tl w).length := TL.len_tl w
    have h1 : (1 : Nat) ≤ w.length := by rw [hw, e1]; simp
    have := cut_tail w 1 h1
    rw [show (1 : Int) = ((1 : Nat) : Int) from rfl, this, e2]
    show TL.tl _ = _
    rw [TL.tl_strSub_end]
    show (tl w).drop 1 = r
    rw [e1]
    rfl
  · rw [e2] at h
    cases h
theorem zero_tl : TL.tl ("0" : Str) = [48] := by decide +kernel
theorem zero_is (w : Str) : (w == ("0" : Str)) = (tl w == [48]) := by
  by_cases h : tl w = [48]
  · have : w = ("0" : Str) := TL.ext_tl (by rw [zero_tl]; exact h)
    rw [this]
    decide +kernel
  · rw [beq_eq_false_iff_ne.mpr h]
    refine beq_eq_false_iff_ne.mpr fun q => h ?_
    rw [q]
    exact zero_tl
theorem zeroed_is (w : Str) : zeroed (tl w) = ((sgn (tl w)).2.head? == some 48 && !(w == ("0" : Str))) := by
  rw [zero_is]
  rfl
theorem sign_is (c : Nat) : ((⟨#[c]⟩ : Str) == ("0" : Str)) = (some c == some 48) := by
  rw [zero_is]
  show ([c] == [48]) = _
  rw [Bool.eq_iff_iff, beq_iff_eq, beq_iff_eq]
  simp
/-- the places of the words that are no limits -/
def badK (a b : Option (Option Int)) (i : Nat) : List Int := (([((0 : Int), a), (1, b)].take i).filter fun q => q.2.isNone).map (·.1)
theorem badK_len (a b : Option (Option Int)) (i : Nat) : (badK a b i).length ≤ 2 := by
  unfold badK
  rw [List.length_map]
  refine Nat.le_trans (List.length_filter_le _ _) ?_
  rw [List.length_take]
  exact Nat.min_le_right _ _
theorem badK_some (a b : Option Int) : (badK (some a) (some b) 2).isEmpty = true := rfl
theorem badK_none {a b : Option (Option Int)} (h : a = none ∨ b = none) : (badK a b 2).isEmpty = false := by
  rcases h with rfl | rfl
  · rfl
  · cases a <;> rfl
theorem pairO_none {a b : Option (Option Int)} (h : a = none ∨ b = none) : pairO a b = none := by
  rcases h with rfl | rfl
  · rfl
  · cases a <;> rfl
theorem dpAll_ints {K : PySem.W.Frag} {H : Hp} : ∀ ns : List Int, DpAll K H (ns.map V.int) (ns.map PyData.int)
  | [] => .nil
  | n :: r => .cons (.int n) (dpAll_ints r)
def numB (w : Str) : Bool := (numO (tl w)).isSome
def limB (w : Str) : Bool := (limT w).isSome
def sp_s1 (f : Str → Bool) : Sp := fun vs H Q _ => ∃ w : Str, vs = [.str w] ∧ w.length ≤ 1000 ∧ ∀ H', Same H H' → Q (.bl (f w)) H'
def sp_read_limit : Sp := fun vs H Q _ => ∃ (w : Str) (o : Option Int), vs = [.str w] ∧ w.length ≤ 1000 ∧ limT w = some o ∧ Q (limV o) H
def sp_limit_text : Sp := fun vs H Q _ => ∃ o : Option Int, vs = [limV o] ∧ smO o ∧ Q (.str (limS o)) H
def sp_span_text (K : PySem.W.Frag) (CS : Addr) : Sp := fun vs H Q E => ∃ (v : V) (o : Option PyData), vs = [v] ∧ VD K H v o ∧ (spanO o = false → Rz H E CS "value" v) ∧ ∀ s : Span, o = some (spD s) → okS s = true → smO s.1 ∧ smO s.2 ∧ ∀ H', Same H H' → Q (.str (spS s)) H'
def sp_read_span (K : PySem.W.Frag) (CT : Addr) : Sp := fun vs H Q E => ∃ (v : V) (o : Option PyData), vs = [v] ∧ VD K H v o ∧ (rdT o = none → Rz H E CT "value" v) ∧ ∀ s : Span, rdT o = some s → ∀ p H', Same H H' → H p = none → H' p = some (.tup (spV s)) → Q (.ref p) H'
def sp_law_number (K : PySem.W.Frag) : Sp := fun vs H Q _ => ∃ w : Str, vs = [.str w] ∧ w.length ≤ 1000 ∧ PyData.strOk w = true ∧ ∀ H', Same H H' → Q (limV (numO (tl w))) H'
def sp_law_read (K : PySem.W.Frag) : Sp := fun vs H Q _ => ∃ x : Str, vs = [.str x] ∧ x.length ≤ 1000 ∧ PyData.strOk x = true ∧ (rdO x = none → ∀ H', Same H H' → Q .non H') ∧ ∀ s : Span, rdO x = some s → ∀ p H', Same H H' → H p = none → H' p = some (.tup (spV s)) → Q (.ref p) H'
/-- the pair of a word and a value -/
def Told (H : Hp) (Q : VK) (w : Str) (v : V) : Prop := ∀ p H', Same H H' → H p = none → H' p = some (.lst [.str w, v]) → Q (.ref p) H'
def sp_told (K : PySem.W.Frag) : Sp := fun vs H Q _ => ∃ (n : Int) (x : V) (o : Option PyData), vs = [.int n, x] ∧ VD K H x o ∧
  ((n = 0 ∧ (rdT o = none → Told H Q "text" x) ∧ ∀ s, rdT o = some s → ∀ p q H', Same H H' → H p = none → H q = none → H' q = some (.tup (spV s)) → H' p = some (.lst [.str "read", .ref q]) → Q (.ref p) H') ∨ (n ≠ 0 ∧ spanO o = false ∧ Told H Q "span" x))
/-- a text is bent: three draws -/
def sp_bent : Sp := fun vs H Q _ => ∃ (H0 : Hp) (p : Addr) (n : Nat) (x : Str) (m : Nat), vs = [.ref p, .str x] ∧ BoxIn H0 H p n ∧ n + 3 < 1000000 ∧ sOk m x ∧ m < 400 ∧ ∀ (H1 H' : Hp) (y : Str), Same H0 H1 → BoxIn H1 H' p (n + 3) → sOk (2 * m + 1) y → Q (.str y) H'
theorem eqv_sp (s : Span) : PyData.eqv (spD s) (spD s) = true := by
  refine SeqAt.eqv_refl _ ?_
  exact (shaped_iff.mp (shaped_sp s)).1
theorem sure2 {w : Str} {v : V} (h : sureV v = true) : ([.str w, v] : List V).all sureV = true := by
  show (sureV (.str w) && (sureV v && true)) = true
  rw [h]
  rfl
theorem spD_inj {s t : Span} (h : spD s = spD t) : s = t := by
  obtain ⟨a, b⟩ := s
  obtain ⟨c, d⟩ := t
  have h' : PyData.tuple [limD a, limD b] = PyData.tuple [limD c, limD d] := h
  injection h' with h1
  injection h1 with h2 h3
  injection h3 with h4 _
  rw [limD_inj h2, limD_inj h4]
def rdD (s : Span) : PyData := .list [.str "read", spD s]
theorem shaped_read (s : Span) : SeqAt.shaped (rdD s) = true := by
  refine shaped_list (n := 5) (by decide) fun d hd => ?_
  simp only [List.mem_cons, List.not_mem_nil, or_false] at hd
  rcases hd with rfl | rfl
  · exact ⟨by decide +kernel, by decide +kernel⟩
  · refine ⟨(shaped_iff.mp (shaped_sp s)).1, ?_⟩
    obtain ⟨a, b⟩ := s
    cases a <;> cases b <;> simp [spD, limD, PyData.depth, PyData.depthAll]
theorem shaped_two (s : Span) : SeqAt.shaped (.list [limD s.1, limD s.2]) = true := by
  obtain ⟨a, b⟩ := s
  cases a <;> cases b <;> rfl
theorem eqv_read (s : Span) : PyData.eqv (rdD s) (rdD s) = true := SeqAt.eqv_refl _ (shaped_iff.mp (shaped_read s)).1
theorem dp_read {K : PySem.W.Frag} {H : Hp} {f q : Addr} {s : Span} (h : SqL K H f [.str "read", .ref q]) (h2 : SqT K H q (spV s)) : Dp K H (.ref f) (rdD s) := .lst h (.cons (.str _) (.cons (.tup h2 (dpAll_spV s)) .nil))
theorem vd_text {K : PySem.W.Frag} {H : Hp} {y : Str} (h : sOk 900 y) : VD K H (.str y) (some (.str y)) := .dat (.str y) (shaped_iff.mpr ⟨h.2, by simp [PyData.depth]⟩) (fun u eu => by cases eu; exact Nat.le_trans h.1 (by decide))
/-- two lists with the same word and tuples of the same limits, or the same items -/
def rNeU (K : PySem.W.Frag) : R2 := fun x y H Q => rNeS K x y H Q ∨ rNeD K x y H Q
theorem op_neU {X : Cx} (hu : X.A.units + 64 < cLine) : OpR X (compareOp .NotEq) (rNeU X.K) := fun pins s σ H x y v u Q I rx ry h => h.elim (op_neS hu pins s σ H x y v u Q I rx ry) (op_neD hu pins s σ H x y v u Q I rx ry)
/-- what the top has written -/
structure Txt (K : PySem.W.Frag) (mg : Str → Option Value) where
  f_InvalidSpan_init : Addr
  fd_InvalidSpan_init : FuncData
  F_InvalidSpan_init : Fun K "__init__" "InvalidSpan.__init__" s_InvalidSpan_init f_InvalidSpan_init fd_InvalidSpan_init
  b_InvalidSpan_init : Binds K fd_InvalidSpan_init ["self", "value"] []
  f_InvalidText_init : Addr
  fd_InvalidText_init : FuncData
  F_InvalidText_init : Fun K "__init__" "InvalidText.__init__" s_InvalidText_init f_InvalidText_init fd_InvalidText_init
  b_InvalidText_init : Binds K fd_InvalidText_init ["self", "value"] []
  f_is_integer : Addr
  fd_is_integer : FuncData
  F_is_integer : Fun K "is_integer" "is_integer" s_is_integer f_is_integer fd_is_integer
  b_is_integer : Binds K fd_is_integer ["value"] []
  m_is_integer : mg "is_integer" = some (.ref f_is_integer)
  f_is_span : Addr
  fd_is_span : FuncData
  F_is_span : Fun K "is_span" "is_span" s_is_span f_is_span fd_is_span
  b_is_span : Binds K fd_is_span ["value"] []
  m_is_span : mg "is_span" = some (.ref f_is_span)
  f_is_limit : Addr
  fd_is_limit : FuncData
  F_is_limit : Fun K "is_limit" "is_limit" s_is_limit f_is_limit fd_is_limit
  b_is_limit : Binds K fd_is_limit ["value"] []
  m_is_limit : mg "is_limit" = some (.ref f_is_limit)
  f_require_span : Addr
  fd_require_span : FuncData
  F_require_span : Fun K "require_span" "require_span" s_require_span f_require_span fd_require_span
  b_require_span : Binds K fd_require_span ["value"] []
  m_require_span : mg "require_span" = some (.ref f_require_span)
  f_span_text : Addr
  fd_span_text : FuncData
  F_span_text : Fun K "span_text" "span_text" s_span_text f_span_text fd_span_text
  b_span_text : Binds K fd_span_text ["span"] []
  m_span_text : mg "span_text" = some (.ref f_span_text)
  f_limit_text : Addr
  fd_limit_text : FuncData
  F_limit_text : Fun K "limit_text" "limit_text" s_limit_text f_limit_text fd_limit_text
  b_limit_text : Binds K fd_limit_text ["limit"] []
  m_limit_text : mg "limit_text" = some (.ref f_limit_text)
  f_read_span : Addr
  fd_read_span : FuncData
  F_read_span : Fun K "read_span" "read_span" s_read_span f_read_span fd_read_span
  b_read_span : Binds K fd_read_span ["text"] []
  m_read_span : mg "read_span" = some (.ref f_read_span)
  f_is_limit_text : Addr
  fd_is_limit_text : FuncData
  F_is_limit_text : Fun K "is_limit_text" "is_limit_text" s_is_limit_text f_is_limit_text fd_is_limit_text
  b_is_limit_text : Binds K fd_is_limit_text ["text"] []
  m_is_limit_text : mg "is_limit_text" = some (.ref f_is_limit_text)
  f_read_limit : Addr
  fd_read_limit : FuncData
  F_read_limit : Fun K "read_limit" "read_limit" s_read_limit f_read_limit fd_read_limit
  b_read_limit : Binds K fd_read_limit ["text"] []
  m_read_limit : mg "read_limit" = some (.ref f_read_limit)
  f_is_number_text : Addr
  fd_is_number_text : FuncData
  F_is_number_text : Fun K "is_number_text" "is_number_text" s_is_number_text f_is_number_text fd_is_number_text
  b_is_number_text : Binds K fd_is_number_text ["text"] []
  m_is_number_text : mg "is_number_text" = some (.ref f_is_number_text)
  f_law_cell : Addr
  fd_law_cell : FuncData
  F_law_cell : Fun K "_law_cell" "_law_cell" s_law_cell f_law_cell fd_law_cell
  b_law_cell : Binds K fd_law_cell ["_law_script", "_law_k"] []
  m_law_cell : mg "_law_cell" = some (.ref f_law_cell)
  f_law_box : Addr
  fd_law_box : FuncData
  F_law_box : Fun K "_law_box" "_law_box" s_law_box f_law_box fd_law_box
  b_law_box : Binds K fd_law_box ["_law_cell_here"] []
  m_law_box : mg "_law_box" = some (.ref f_law_box)
  f_law_take : Addr
  fd_law_take : FuncData
  F_law_take : Fun K "_law_take" "_law_take" s_law_take f_law_take fd_law_take
  b_law_take : Binds K fd_law_take ["_law_box_here", "_law_many"] []
  m_law_take : mg "_law_take" = some (.ref f_law_take)
  f_law_span : Addr
  fd_law_span : FuncData
  F_law_span : Fun K "_law_span" "_law_span" s_law_span f_law_span fd_law_span
  b_law_span : Binds K fd_law_span ["_law_box_here"] []
  m_law_span : mg "_law_span" = some (.ref f_law_span)
  f_law_number : Addr
  fd_law_number : FuncData
  F_law_number : Fun K "_law_number" "_law_number" s_law_number f_law_number fd_law_number
  b_law_number : Binds K fd_law_number ["_law_word"] []
  m_law_number : mg "_law_number" = some (.ref f_law_number)
  f_law_read : Addr
  fd_law_read : FuncData
  F_law_read : Fun K "_law_read" "_law_read" s_law_read f_law_read fd_law_read
  b_law_read : Binds K fd_law_read ["_law_text"] []
  m_law_read : mg "_law_read" = some (.ref f_law_read)
  f_law_told : Addr
  fd_law_told : FuncData
  F_law_told : Fun K "_law_told" "_law_told" s_law_told f_law_told fd_law_told
  b_law_told : Binds K fd_law_told ["_law_way", "_law_value"] []
  m_law_told : mg "_law_told" = some (.ref f_law_told)
  f_law_bent : Addr
  fd_law_bent : FuncData
  F_law_bent : Fun K "_law_bent" "_law_bent" s_law_bent f_law_bent fd_law_bent
  b_law_bent : Binds K fd_law_bent ["_law_box_here", "_law_text"] []
  m_law_bent : mg "_law_bent" = some (.ref f_law_bent)
  f_law : Addr
  fd_law : FuncData
  F_law : Fun K "law" "law" s_law f_law fd_law
  b_law : Binds K fd_law ["_law_script"] []
  m_law : mg "law" = some (.ref f_law)
  C_PartsError : Addr
  g_PartsError : mg "PartsError" = some (.ref C_PartsError)
  C_InvalidSpan : Addr
  g_InvalidSpan : mg "InvalidSpan" = some (.ref C_InvalidSpan)
  x_InvalidSpan : OexC K C_InvalidSpan
  y_InvalidSpan : XfC K C_InvalidSpan
  n_InvalidSpan : PySem.W.findIn K (.ref C_InvalidSpan) "value" = some none
  i_InvalidSpan : PySem.W.findIn K (.ref C_InvalidSpan) "__init__" = some (some (.ref f_InvalidSpan_init))
  t_InvalidSpan : PySem.W.typeIn K (.ref f_InvalidSpan_init) = some (.type "function")
  C_InvalidText : Addr
  g_InvalidText : mg "InvalidText" = some (.ref C_InvalidText)
  x_InvalidText : OexC K C_InvalidText
  y_InvalidText : XfC K C_InvalidText
  n_InvalidText : PySem.W.findIn K (.ref C_InvalidText) "value" = some none
  i_InvalidText : PySem.W.findIn K (.ref C_InvalidText) "__init__" = some (some (.ref f_InvalidText_init))
  t_InvalidText : PySem.W.typeIn K (.ref f_InvalidText_init) = some (.type "function")
  e_InvalidSpan_InvalidSpan : PySem.W.exmOne K (.ref C_InvalidSpan) (.ref C_InvalidSpan) = some true
  e_InvalidSpan_InvalidText : PySem.W.exmOne K (.ref C_InvalidSpan) (.ref C_InvalidText) = some false
  e_InvalidText_InvalidText : PySem.W.exmOne K (.ref C_InvalidText) (.ref C_InvalidText) = some true
  t_MOST_DIGITS : Tok
  c_MOST_DIGITS : mg "MOST_DIGITS" = some (.int 30 t_MOST_DIGITS)
  z_isinstance : mg "isinstance" = none
  z_int : mg "int" = none
  z_bool : mg "bool" = none
  z_tuple : mg "tuple" = none
  z_len : mg "len" = none
  z_str : mg "str" = none
  z_all : mg "all" = none
  z_max : mg "max" = none
  z_range : mg "range" = none
  z_min : mg "min" = none
  z_list : mg "list" = none

section
variable {P : Program} {w : World} {K : PySem.W.Frag} {mg : Str → Option Value} {base : Heap}
theorem ok_law_cell (T : Txt K mg) : FnOk P w K mg base CX0 1 T.f_law_cell T.fd_law_cell ["_law_script", "_law_k"] (sp_law_cell K) := by
  refine T.F_law_cell.ok sc_law_cell (fun vs H Q E h => ?_) (fun cdv A outer s H vs Q E hr h => ?_)
  · obtain ⟨a, ns, k, rfl, _⟩ := h
    rfl
  · obtain ⟨a, ns, k, rfl, hS, hk, kq⟩ := h
    refine ⟨_, (pss_cons (ps_if (pt_cmpR op_lt (pv 1) (pe_callB (id := "len") call_len_seq (by rfl) T.z_len (by decide +kernel) (pa_cons (pv 0) pa_nil)) (nomark _)) (pss_one (ps_ret (pe_ix ix_list (pv 0) (pv 1) (fun _ _ => rfl)))) pss_nil)
        (pss_one (ps_ret (pe_op op_add (pe_op op_mul pe_int (pv 1)) pe_int)))), ?_⟩
    refine ⟨_, rfl, _, rfl, a, _, rfl, .inl hS, _, _, rfl, rfl, _, rfl, ?_⟩
    refine ite2 (fun c => ?_) (fun c => ?_)
    · have c' := of_decide_eq_true c
      rw [List.length_map] at c'
      obtain ⟨j, rfl⟩ := Int.eq_ofNat_of_zero_le hk
      have hj : j < ns.length := by omega
      refine ⟨_, rfl, _, rfl, a, _, _, .int ns[j], rfl, rfl, hS, atI_nat (by rw [List.getElem?_map, List.getElem?_eq_getElem hj]; rfl), kq _⟩
    · refine ⟨_, rfl, _, _, rfl, rfl, .inl ⟨by decide, by decide⟩, _, _, rfl, rfl, kq _⟩
theorem ok_law_box (T : Txt K mg) : FnOk P w K mg base CX0 1 T.f_law_box T.fd_law_box ["_law_cell_here"] sp_law_box := by
  refine T.F_law_box.ok sc_law_box (fun vs H Q E h => ?_) (fun cdv A outer s H vs Q E hr h => ?_)
  · obtain ⟨z, rfl, _⟩ := h
    rfl
  · obtain ⟨z, rfl, k⟩ := h
    refine ⟨_, (pss_one (ps_ret (pe_lst (pa_cons (pe_callB (id := "max") (call_max2 rfl) (by rfl) T.z_max (by decide +kernel) (pa_cons pe_int (pa_cons (pe_op op_sub (pv 0) (pe_op op_pow pe_int pe_int)) pa_nil))) (pa_cons (pe_op op_mod (pv 0) pe_int) (pa_cons pe_int pa_nil)))))), ?_⟩
    refine ⟨_, rfl, _, _, rfl, rfl, ⟨by decide, by decide, by decide⟩, _, _, rfl, rfl, _, _, rfl, ?_⟩
    refine ⟨_, rfl, _, _, rfl, rfl, (by show (0 : Int) < 2147483629; decide), (by show 3 ≤ sizeLine; decide), fun p hp => ?_⟩
    refine k p _ hp ⟨_, _, _, upd_same, ?_, Int.emod_nonneg _ (by decide), Int.emod_lt_of_pos _ (by decide), by decide, by decide⟩
    by_cases c : z - 10 ^ (18 : Int).toNat > 0
    · rw [if_pos c]
      omega
    · rw [if_neg c]
      exact Int.le_refl _
theorem ok_law_take (T : Txt K mg) : FnOk P w K mg base CX0 1 T.f_law_take T.fd_law_take ["_law_box_here", "_law_many"] sp_law_take := by
  refine T.F_law_take.ok sc_law_take (fun vs H Q E h => ?_) (fun cdv A outer s H vs Q E hr h => ?_)
  · obtain ⟨H0, p, n, m, rfl, _⟩ := h
    rfl
  · obtain ⟨H0, p, n, m, rfl, B, hn, hm, hm2, k⟩ := h
    obtain ⟨d, s, c, hp, hd, hs, hs2, hc, hc2⟩ := B.box
    have hL : SqL K H p [.int d, .int s, .int c] := SqL.of hp
    have nx : ∀ (d' c' : Int), 0 ≤ d' → 0 ≤ c' → c' ≤ c + 1 → BoxIn H0 (upd H p (.lst [.int d', .int s, .int c'])) p (n + 1) := fun d' c' h1 h2 h3 =>
      ⟨fun x u e => by rw [upd_ne (ne_of_none e B.free)]; exact B.same _ _ e, B.free, d', s, c', upd_same, h1, hs, hs2, h2, by omega⟩
    refine ⟨_, (pss_cons (ps_if (pt_cmpR op_gt (pe_ix ix_list (pv 0) pe_int (fun _ _ => rfl)) pe_int (nomark _)) (pss_cons (ps_set (i := 2) sc_law_take.nd rfl (Or.inl rfl) (pe_op op_mod (pe_ix ix_list (pv 0) pe_int (fun _ _ => rfl)) (pv 1)))
        (pss_cons (ps_asg (pe_op op_fdiv (pe_ix ix_list (pv 0) pe_int (fun _ _ => rfl)) (pv 1)) (pg_sub (pv 0) pe_int set_list))
        (pss_one (ps_ret (pv 2))))) pss_nil)
        (pss_cons (ps_asg (pe_op op_add (pe_ix ix_list (pv 0) pe_int (fun _ _ => rfl)) pe_int) (pg_sub (pv 0) pe_int set_list))
        (pss_cons (ps_set (i := 3) sc_law_take.nd rfl (Or.inl rfl) (pe_op op_mod (pe_op op_pow (pe_op op_add (pe_op op_add (pe_ix ix_list (pv 0) pe_int (fun _ _ => rfl)) (pe_op op_mul pe_int (pe_ix ix_list (pv 0) pe_int (fun _ _ => rfl)))) pe_int) pe_int) pe_int))
        (pss_cons (ps_set (i := 3) sc_law_take.nd rfl (Or.inl rfl) (pe_op op_mod (pe_op op_pow (pe_op op_add (pv 3) (pe_op op_mul pe_int (pe_ix ix_list (pv 0) pe_int (fun _ _ => rfl)))) pe_int) pe_int))
        (pss_one (ps_ret (pe_op op_mod (pe_op op_fdiv (pv 3) pe_int) (pv 1)))))))), ?_⟩
    refine ⟨_, rfl, p, _, _, _, rfl, rfl, hL, atI_nat (j := 0) rfl, _, _, rfl, rfl, _, rfl, ?_⟩
    refine ite2 (fun c0 => ?_) (fun c0 => ?_)
    · have c0' := of_decide_eq_true c0
      refine ⟨_, rfl, p, _, _, _, rfl, rfl, hL, atI_nat (j := 0) rfl, _, rfl, _, _, rfl, rfl, hm, ?_⟩
      refine ⟨_, rfl, p, _, _, _, rfl, rfl, hL, atI_nat (j := 0) rfl, _, rfl, _, _, rfl, rfl, ⟨hm, by omega⟩, ?_⟩
      refine ⟨_, rfl, p, _, _, 0, rfl, rfl, hp, rfl, ?_⟩
      refine ⟨_, rfl, k _ _ (Int.emod_nonneg _ (by omega)) (Int.emod_lt_of_pos _ hm) (nx _ _ (Int.ediv_nonneg hd (by omega)) hc (by omega))⟩
    · refine ⟨_, rfl, p, _, _, _, rfl, rfl, hL, atI_nat (j := 2) rfl, _, _, rfl, rfl, ?_⟩
      refine ⟨_, rfl, p, _, _, 2, rfl, rfl, hp, rfl, ?_⟩
      have hL' : SqL K (upd H p (.lst [.int d, .int s, .int (c + 1)])) p [.int d, .int s, .int (c + 1)] := SqL.of upd_same
      refine ⟨_, rfl, p, _, _, _, rfl, rfl, hL', atI_nat (j := 1) rfl, _, rfl, p, _, _, _, rfl, rfl, hL', atI_nat (j := 2) rfl, _, _, rfl, rfl, .inl ⟨by decide, by decide⟩, _, _, rfl, rfl, _, _, rfl, rfl, _, _, rfl, rfl, ⟨by decide, by decide, by omega⟩, _, _, rfl, rfl, (by show (0 : Int) < 2147483647; decide), ?_⟩
      have h1 := Int.emod_nonneg ((s + 7919 * (c + 1) + 43) ^ (5 : Int).toNat) (show (2147483647 : Int) ≠ 0 by decide)
      have h2 := Int.emod_lt_of_pos ((s + 7919 * (c + 1) + 43) ^ (5 : Int).toNat) (show (0 : Int) < 2147483647 by decide)
      refine ⟨_, rfl, _, rfl, p, _, _, _, rfl, rfl, hL', atI_nat (j := 2) rfl, _, _, rfl, rfl, .inl ⟨by decide, by decide⟩, _, _, rfl, rfl, _, _, rfl, rfl, ⟨by decide, by decide, by omega⟩, _, _, rfl, rfl, (by show (0 : Int) < 2147483587; decide), ?_⟩
      refine ⟨_, rfl, _, _, rfl, rfl, ⟨by decide, by decide⟩, _, rfl, _, _, rfl, rfl, hm, ?_⟩
      exact k _ _ (Int.emod_nonneg _ (by omega)) (Int.emod_lt_of_pos _ hm) (nx _ _ hd (by omega) (by omega))
theorem ok_is_integer (T : Txt K mg) : FnOk P w K mg base CX0 1 T.f_is_integer T.fd_is_integer ["value"] (sp_vO K intO) := by
  refine T.F_is_integer.ok sc_is_integer (fun vs H Q E h => ?_) (fun cdv A outer s H vs Q E hr h => ?_)
  · obtain ⟨v, o, rfl, _⟩ := h
    rfl
  · obtain ⟨v, o, rfl, ty, _, k⟩ := h
    refine ⟨_, (pss_one (ps_ret (pe_and (pe_callB (id := "isinstance") call_isi (by rfl) T.z_isinstance (by decide +kernel) (pa_cons (pv 0) (pa_cons (pe_bltn (v := .ty "int") (u := .type "int") (by rfl) T.z_int (by decide +kernel) rfl) pa_nil))) (pe_one (pe_not (pe_callB (id := "isinstance") call_isi (by rfl) T.z_isinstance (by decide +kernel) (pa_cons (pv 0) (pa_cons (pe_bltn (v := .ty "bool") (u := .type "bool") (by rfl) T.z_bool (by decide +kernel) rfl) pa_nil)))))))), ?_⟩
    refine ⟨_, rfl, _, _, _, _, _, rfl, .ty _, ty, kit_o o (.inl rfl), _, rfl, ?_⟩
    unfold intO at k
    cases e : isT "int" o with
    | true =>
      rw [e] at k
      exact iteT ⟨_, rfl, _, _, _, _, _, rfl, .ty _, ty, kit_o o (.inr (.inl rfl)), _, rfl, k⟩
    | false =>
      rw [e] at k
      exact iteF k
theorem ok_is_limit (T : Txt K mg) : FnOk P w K mg base CX0 2 T.f_is_limit T.fd_is_limit ["value"] (sp_vO K limO) := by
  refine T.F_is_limit.ok sc_is_limit (fun vs H Q E h => ?_) (fun cdv A outer s H vs Q E hr h => ?_)
  · obtain ⟨v, o, rfl, _⟩ := h
    rfl
  · obtain ⟨v, o, rfl, ty, hn, k⟩ := h
    refine ⟨_, (pss_one (ps_ret (pe_or (pe_cmpR op_isN (pv 0) pe_non (nomark _)) (pe_one (pe_call (ok_is_integer T) hr rfl T.m_is_integer T.F_is_integer.kp T.b_is_integer .nil pass0 (pa_cons (pv 0) pa_nil)))))), ?_⟩
    refine ⟨_, rfl, rfl, _, rfl, ?_⟩
    unfold limO at k
    rw [hn]
    cases e : nonO o with
    | true =>
      rw [e] at k
      exact iteT k
    | false =>
      rw [e] at k
      exact iteF ⟨_, rfl, v, o, rfl, ty, hn, k⟩
theorem ok_is_span (T : Txt K mg) : FnOk P w K mg base CX0 3 T.f_is_span T.fd_is_span ["value"] (sp_v1 K spanO) := by
  refine T.F_is_span.ok sc_is_span (fun vs H Q E h => ?_) (fun cdv A outer s H vs Q E hr h => ?_)
  · obtain ⟨v, o, rfl, _⟩ := h
    rfl
  · obtain ⟨v, o, rfl, hv, k⟩ := h
    have ty := hv.ty
    have k := k H (Same.refl H)
    refine ⟨_, (pss_cons (ps_if (PW.pt (pw_or (pt_not (pt_val (pe_callB (id := "isinstance") call_isi (by rfl) T.z_isinstance (by decide +kernel) (pa_cons (pv 0) (pa_cons (pe_bltn (v := .ty "tuple") (u := .type "tuple") (by rfl) T.z_tuple (by decide +kernel) rfl) pa_nil))))) (pw_or1 (pt_cmpR op_ne (pe_callB (id := "len") call_len_seq (by rfl) T.z_len (by decide +kernel) (pa_cons (pv 0) pa_nil)) pe_int (nomark _))))) (pss_one (ps_ret pe_bl)) pss_nil)
        (pss_cons (ps_asg (pv 0) (pg_tup rfl (pgs_cons (pg_name (i := 1) sc_is_span.nd rfl (Or.inl rfl)) (pgs_cons (pg_name (i := 2) sc_is_span.nd rfl (Or.inl rfl)) pgs_nil))))
        (pss_cons (ps_if (PW.pt (pw_or (pt_not (pt_val (pe_call (ok_is_limit T) hr rfl T.m_is_limit T.F_is_limit.kp T.b_is_limit .nil pass0 (pa_cons (pv 1) pa_nil)))) (pw_or1 (pt_not (pt_val (pe_call (ok_is_limit T) hr rfl T.m_is_limit T.F_is_limit.kp T.b_is_limit .nil pass0 (pa_cons (pv 2) pa_nil))))))) (pss_one (ps_ret pe_bl)) pss_nil)
        (pss_one (ps_ret (pe_or (pe_cmpR op_isN (pv 1) pe_non (nomark _)) (pe_or (pe_cmpR op_isN (pv 2) pe_non (nomark _)) (pe_one (pe_cmpR op_lt (pv 1) (pv 2) (nomark _)))))))))), ?_⟩
    refine ⟨_, rfl, _, _, _, _, _, rfl, .ty _, ty, kit_o o (.inr (.inr (.inr rfl))), _, rfl, ?_⟩
    cases e : isT "tuple" o with
    | false =>
      have e2 : spanO o = false := by
        rcases o with _ | d
        · rfl
        · cases d with
          | tuple s => cases e
          | _ => rfl
      rw [e2] at k
      exact iteT (iteT k)
    | true =>
      obtain ⟨a, xs, ds, rfl, rfl, hT, hD⟩ : ∃ a xs ds, v = .ref a ∧ o = some (.tuple ds) ∧ SqT K H a xs ∧ DpAll K H xs ds := by
        cases hv with
        | dat a _ c =>
          cases a with
          | tup h1 h2 => exact ⟨_, _, _, rfl, rfl, h1, h2⟩
          | _ => cases e
        | dic a => cases e
      have hlen := dpAll_len hD
      refine iteF ⟨_, rfl, _, _, rfl, .inr hT, rfl, _, rfl, ?_⟩
      show (if (!decide (V.int (xs.length : Int) = V.int 2)) = true then _ else _)
      rw [dec_int]
      by_cases e2 : xs.length = 2
      · have e3 : (((xs.length : Nat) : Int) == 2) = true := by rw [e2]; rfl
        rw [e3]
        refine iteF ?_
        obtain ⟨x, y, d, d2, rfl, rfl, h1, h2⟩ := dp_two hD e2
        have t1 := dp_vO h1
        have t2 := dp_vO h2
        refine ⟨_, rfl, a, _, rfl, hT, rfl, _, _, rfl, _, _, rfl, rfl, ?_⟩
        have k : Q (.bl (limO (some d) && (limO (some d2) && ltO d d2))) H := k
        refine ⟨_, rfl, _, some d, rfl, t1.1, t1.2, _, rfl, ?_⟩
        cases l1 : limO (some d) with
        | false =>
          rw [l1] at k
          exact iteT (iteT k)
        | true =>
          rw [l1] at k
          refine iteF ⟨_, rfl, _, some d2, rfl, t2.1, t2.2, _, rfl, ?_⟩
          cases l2 : limO (some d2) with
          | false =>
            rw [l2] at k
            exact iteT k
          | true =>
            rw [l2] at k
            refine iteF ⟨_, rfl, rfl, _, rfl, ?_⟩
            have k : Q (.bl (ltO d d2)) H := k
            cases h1 with
            | non => exact iteT k
            | int i =>
              refine iteF ⟨_, rfl, rfl, _, rfl, ?_⟩
              cases h2 with
              | non => exact iteT k
              | int j => exact iteF ⟨_, rfl, _, rfl, _, _, rfl, rfl, k⟩
              | _ => cases l2
            | _ => cases l1
      · have e3 : (((xs.length : Nat) : Int) == 2) = false := by
          rw [beq_eq_false_iff_ne]
          omega
        rw [e3]
        have e4 : spanO (some (.tuple ds)) = false := spanO_no fun q => e2 (hlen.trans q)
        rw [e4] at k
        exact iteT k
theorem ok_InvalidSpan_init (T : Txt K mg) : FnOk P w K mg base CX0 1 T.f_InvalidSpan_init T.fd_InvalidSpan_init ["self", "value"] (sp_xinit K T.C_InvalidSpan "value") := by
  refine T.F_InvalidSpan_init.ok sc_InvalidSpan_init (fun vs H Q E h => ?_) (fun cdv A outer s H vs Q E hr h => ?_)
  · obtain ⟨a, v, rfl, _⟩ := h
    rfl
  · obtain ⟨a, v, rfl, x, n, ha, k⟩ := h
    refine ⟨_, (pss_one (ps_ost (pv 0) (pv 1))), ?_⟩
    exact ⟨_, rfl, _, rfl, a, T.C_InvalidSpan, rfl, x, n, .inl ⟨ha, k⟩⟩
theorem ok_require_span (T : Txt K mg) : FnOk P w K mg base (L2.CX P w) 4 T.f_require_span T.fd_require_span ["value"] (sp_req K spanO T.C_InvalidSpan "value") := by
  refine T.F_require_span.okX sc_require_span (fun vs H Q E h => ?_) (fun cdv A outer s H vs Q E hr h => ?_)
  · obtain ⟨v, o, rfl, _⟩ := h
    rfl
  · obtain ⟨v, o, rfl, hv, k1, k2⟩ := h
    refine ⟨_, (pss_one (ps_if (pt_not (pt_val (pe_call (ok_is_span T) hr rfl T.m_is_span T.F_is_span.kp T.b_is_span .nil pass0 (pa_cons (pv 0) pa_nil)))) (pss_one (ps_raise rfl (takes_of rfl rfl rfl rfl) (pmk_oex T.x_InvalidSpan T.i_InvalidSpan T.t_InvalidSpan (ok_InvalidSpan_init T) (hr.mono (by decide)) T.b_InvalidSpan_init .nil pass0 rfl T.g_InvalidSpan (pa_cons (pv 0) pa_nil)))) pss_nil)), ?_⟩
    refine ⟨_, rfl, v, o, rfl, hv, fun H1 s1 => ⟨_, rfl, ?_⟩⟩
    cases e : spanO o with
    | true => exact iteF (k1 e H1 s1)
    | false => exact iteT ⟨_, rfl, raise_x T.x_InvalidSpan T.n_InvalidSpan ((k2 e).back s1)⟩
theorem ok_InvalidText_init (T : Txt K mg) : FnOk P w K mg base CX0 1 T.f_InvalidText_init T.fd_InvalidText_init ["self", "value"] (sp_xinit K T.C_InvalidText "value") := by
  refine T.F_InvalidText_init.ok sc_InvalidText_init (fun vs H Q E h => ?_) (fun cdv A outer s H vs Q E hr h => ?_)
  · obtain ⟨a, v, rfl, _⟩ := h
    rfl
  · obtain ⟨a, v, rfl, x, n, ha, k⟩ := h
    refine ⟨_, (pss_one (ps_ost (pv 0) (pv 1))), ?_⟩
    exact ⟨_, rfl, _, rfl, a, T.C_InvalidText, rfl, x, n, .inl ⟨ha, k⟩⟩
theorem ok_is_number_text (T : Txt K mg) : FnOk P w K mg base CX0 1 T.f_is_number_text T.fd_is_number_text ["text"] (sp_s1 numB) := by
  refine T.F_is_number_text.ok sc_is_number_text (fun vs H Q E h => ?_) (fun cdv A outer s H vs Q E hr h => ?_)
  · obtain ⟨w, rfl, _⟩ := h
    rfl
  · obtain ⟨w, rfl, hw, k⟩ := h
    have hz : w.length ≤ sizeLine := Nat.le_trans hw (by decide)
    refine ⟨_, (pss_cons (ps_set (i := 1) sc_is_number_text.nd rfl (Or.inl rfl) (pe_m1 PySem.F.slot_str_removeprefix PySem.F.type_str_removeprefix mt_removeprefix (pv 0) pe_str))
        (pss_cons (ps_if (pt_not (pt_chain op_le op_le pe_int (pe_callB (id := "len") call_len_str (by rfl) T.z_len (by decide +kernel) (pa_cons (pv 1) pa_nil)) (pe_glob (v := .int 30) rfl T.c_MOST_DIGITS ⟨_, rfl⟩))) (pss_one (ps_ret pe_bl)) pss_nil)
        (pss_cons (ps_if (pt_not (pt_val (pe_callB (id := "all") (cr_all rfl) (by rfl) T.z_all (by decide +kernel) (pa_cons (pe_lc (own := [("sign", 2)]) (g := gName 2) (tt := tYes) rfl sc_is_number_text.nd (pi_str (pv 1)) (blkOk_by (own := [("sign", 2)]) (N := ["text", "digits", "sign"]) (sc := defScope s_is_number_text) (by decide +kernel)) (fun _ _ _ _ _ => (pg_name (i := 2) sc_is_number_text.nd rfl (Or.inl rfl))) (fun _ _ _ _ _ => pts_nil) (fun _ _ _ _ _ => (pe_chain op_le_str op_le_str pe_str (pv 2) pe_str))) pa_nil)))) (pss_one (ps_ret pe_bl)) pss_nil)
        (pss_one (ps_ret (pe_cmpR op_eq (pe_callTy (T := "str") call_str_int (by rfl) T.z_str (by decide +kernel) (pa_cons (pe_callTy (T := "int") call_int_str (by rfl) T.z_int (by decide +kernel) (pa_cons (pv 0) pa_nil)) pa_nil)) (pv 0) (nomark _))))))), ?_⟩
    refine ⟨_, rfl, ⟨w, rfl⟩, w, _, rfl, rfl, hz, ?_⟩
    have ed := rm_tl w
    have el : (Txt.removeprefix w ("-" : Str)).length = (sgn (tl w)).2.length := by
      rw [← ed]
      exact TL.len_tl _
    have e2 : (Txt.removeprefix w ("-" : Str)).length ≤ 1000 := Nat.le_trans (PyProof.Rows.len_removeprefix _ _) hw
    generalize Txt.removeprefix w ("-" : Str) = x at ed el e2 ⊢
    have hx : x.length ≤ sizeLine := Nat.le_trans e2 (by decide)
    have k : ∀ H', Same H H' → Q (.bl (numO (tl w)).isSome) H' := k
    refine ⟨_, rfl, _, rfl, hx, _, _, rfl, rfl, _, rfl, ?_⟩
    unfold numO at k
    cases c1 : decide ((1 : Int) ≤ x.length) with
    | false =>
      have hd : digOk (sgn (tl w)).2 = false := by
        unfold digOk
        rw [← el]
        have : decide (1 ≤ x.length) = false := decide_eq_false fun q => absurd (of_decide_eq_false c1) (by omega)
        rw [this]
        rfl
      rw [hd] at k
      exact iteF ⟨_, rfl, iteT (k H (Same.refl H))⟩
    | true =>
      refine iteT ⟨_, _, rfl, rfl, _, rfl, ?_⟩
      cases c2 : decide ((x.length : Int) ≤ 30) with
      | false =>
        have hd : digOk (sgn (tl w)).2 = false := by
          unfold digOk
          rw [← el]
          have : decide (x.length ≤ 30) = false := decide_eq_false fun q => absurd (of_decide_eq_false c2) (by omega)
          rw [this]
          cases decide (1 ≤ x.length) <;> rfl
        rw [hd] at k
        exact iteT (k H (Same.refl H))
      | true =>
        refine iteF ?_
        have hd : digOk (sgn (tl w)).2 = x.cps.toList.all isDig := by
          have e3 : x.cps.toList = (sgn (tl w)).2 := ed
          unfold digOk
          rw [← el, e3]
          have h1 : decide (1 ≤ x.length) = true := decide_eq_true (by have := of_decide_eq_true c1; omega)
          have h2 : decide (x.length ≤ 30) = true := decide_eq_true (by have := of_decide_eq_true c2; omega)
          rw [h1, h2]
          rfl
        refine ⟨_, rfl, _, rfl, fun D hD => ?_⟩
        refine lc_acc walk_str hD (fun _ _ => trivial) (fun i => (x.cps.toList.take i).map fun c => V.bl (isDig c)) rfl (fun i hi => ?_) ?_ ?_
        · rw [List.length_map, List.length_take]
          have : x.cps.size ≤ 1000 := e2
          exact Nat.lt_of_le_of_lt (Nat.min_le_left _ _) (Nat.lt_of_lt_of_le hi (Nat.le_trans this (by decide)))
        · rintro i y H2 hi ⟨c, hc, rfl⟩ s1 R S r1 r2
          have ea : ((x.cps.toList.take (i + 1)).map fun c => V.bl (isDig c)) = ((x.cps.toList.take i).map fun c => V.bl (isDig c)) ++ [V.bl (isDig c)] := by
            have hc' : x.cps.toList[i]? = some c := by rw [Array.getElem?_toList]; exact hc
            rw [List.take_add_one, hc']
            simp
          refine ⟨rfl, tyes ⟨_, rfl, _, _, rfl, rfl, _, rfl, ?_⟩⟩
          have ec := (dig_is c).symm
          have ea1 : ("0" : Str).cps.toList = [48] := by decide +kernel
          have ez1 : ("9" : Str).cps.toList = [57] := by decide +kernel
          rw [ea1]
          cases e4 : (!decide (([c] : List Nat) < [48])) with
          | false =>
            rw [e4] at ec
            refine iteF (r1 _ _ ?_ (Same.refl _))
            rw [ea, ec]
            rfl
          | true =>
            rw [e4] at ec
            refine iteT ⟨_, _, rfl, rfl, r1 _ _ ?_ (Same.refl _)⟩
            rw [ea, ec, ez1]
            rfl
        · intro H2 s1 hl
          refine ⟨D, x.cps.toList.map isDig, rfl, SqL.of ?_, ?_⟩
          · rw [hl, List.map_map]
            have : x.cps.toList.take x.cps.size = x.cps.toList := by rw [← Array.length_toList, List.take_length]
            rw [this]
            rfl
          have hall : ((x.cps.toList.map isDig).all fun b => b) = x.cps.toList.all isDig := by rw [List.all_map]; rfl
          have k2 := k H2 s1
          refine ⟨_, rfl, ?_⟩
          cases e5 : x.cps.toList.all isDig with
          | false =>
            have hn : (!((x.cps.toList.map isDig).all fun b => b)) = true := by rw [hall, e5]; rfl
            rw [hd, e5] at k2
            exact iteTe hn k2
          | true =>
            have hn : (!((x.cps.toList.map isDig).all fun b => b)) = false := by rw [hall, e5]; rfl
            have hd2 : digOk (sgn (tl w)).2 = true := hd.trans e5
            refine iteFe hn ⟨_, rfl, w, _, rfl, int_of hd2, Nat.le_trans (digOk_len hd2) (by decide), _, rfl, worth_log hd2, _, rfl, rfl, ?_⟩
            rw [dec_str, back_eq hd2]
            rw [hd2] at k2
            cases ez : zeroed (tl w) with
            | true =>
              rw [ez] at k2
              exact k2
            | false =>
              rw [ez] at k2
              exact k2
theorem ok_is_limit_text (T : Txt K mg) : FnOk P w K mg base CX0 2 T.f_is_limit_text T.fd_is_limit_text ["text"] (sp_s1 limB) := by
  refine T.F_is_limit_text.ok sc_is_limit_text (fun vs H Q E h => ?_) (fun cdv A outer s H vs Q E hr h => ?_)
  · obtain ⟨w, rfl, _⟩ := h
    rfl
  · obtain ⟨w, rfl, hw, k⟩ := h
    refine ⟨_, (pss_one (ps_ret (pe_or (pe_cmpR op_eq (pv 0) pe_str (nomark _)) (pe_one (pe_call (ok_is_number_text T) hr rfl T.m_is_number_text T.F_is_number_text.kp T.b_is_number_text .nil pass0 (pa_cons (pv 0) pa_nil)))))), ?_⟩
    have k : ∀ H', Same H H' → Q (.bl (limT w).isSome) H' := k
    unfold limT at k
    refine ⟨_, rfl, rfl, _, rfl, ?_⟩
    rw [dec_str]
    cases e : w == ("" : Str) with
    | true =>
      rw [e] at k
      exact iteT (k H (Same.refl H))
    | false =>
      rw [e] at k
      refine iteF ⟨_, rfl, w, rfl, hw, fun H' s' => ?_⟩
      have := k H' s'
      rw [if_neg (by decide), Option.isSome_map] at this
      exact this
theorem ok_read_limit (T : Txt K mg) : FnOk P w K mg base CX0 1 T.f_read_limit T.fd_read_limit ["text"] sp_read_limit := by
  refine T.F_read_limit.ok sc_read_limit (fun vs H Q E h => ?_) (fun cdv A outer s H vs Q E hr h => ?_)
  · obtain ⟨w, o, rfl, _⟩ := h
    rfl
  · obtain ⟨w, o, rfl, hw, ho, k⟩ := h
    refine ⟨_, (pss_one (ps_ret (pe_ifExp (pt_cmpR op_eq (pv 0) pe_str (nomark _)) pe_non (pe_callTy (T := "int") call_int_str (by rfl) T.z_int (by decide +kernel) (pa_cons (pv 0) pa_nil))))), ?_⟩
    unfold limT at ho
    refine ⟨_, rfl, rfl, _, rfl, ?_⟩
    rw [dec_str]
    cases e : w == ("" : Str) with
    | true =>
      rw [e] at ho
      cases ho
      exact iteT k
    | false =>
      rw [e, if_neg (by decide)] at ho
      obtain ⟨n, hn, rfl⟩ := Option.map_eq_some_iff.mp ho
      unfold numO at hn
      split at hn
      · rename_i c
        rw [Bool.and_eq_true] at c
        cases hn
        exact iteF ⟨_, rfl, w, _, rfl, int_of c.1, Nat.le_trans (digOk_len c.1) (by decide), k⟩
      · cases hn
theorem ok_limit_text (T : Txt K mg) : FnOk P w K mg base CX0 1 T.f_limit_text T.fd_limit_text ["limit"] sp_limit_text := by
  refine T.F_limit_text.ok sc_limit_text (fun vs H Q E h => ?_) (fun cdv A outer s H vs Q E hr h => ?_)
  · obtain ⟨o, rfl, _⟩ := h
    rfl
  · obtain ⟨o, rfl, ho, k⟩ := h
    refine ⟨_, (pss_one (ps_ret (pe_ifExp (pt_cmpR op_isN (pv 0) pe_non (nomark _)) pe_str (pe_callTy (T := "str") call_str_int (by rfl) T.z_str (by decide +kernel) (pa_cons (pv 0) pa_nil))))), ?_⟩
    cases o with
    | none => exact ⟨_, rfl, rfl, _, rfl, iteT k⟩
    | some i => exact ⟨_, rfl, rfl, _, rfl, iteF ⟨_, rfl, i, rfl, log_lt ho, k⟩⟩
theorem ok_span_text (T : Txt K mg) : FnOk P w K mg base (L2.CX P w) 5 T.f_span_text T.fd_span_text ["span"] (sp_span_text K T.C_InvalidSpan) := by
  refine T.F_span_text.okX sc_span_text (fun vs H Q E h => ?_) (fun cdv A outer s H vs Q E hr h => ?_)
  · obtain ⟨v, o, rfl, _⟩ := h
    rfl
  · obtain ⟨v, o, rfl, hv, k1, k2⟩ := h
    refine ⟨_, (pss_cons (ps_expr (pe_call (ok_require_span T) hr rfl T.m_require_span T.F_require_span.kp T.b_require_span .nil (passC (takes_of rfl rfl rfl rfl)) (pa_cons (pv 0) pa_nil)))
        (pss_cons (ps_asg (pv 0) (pg_tup rfl (pgs_cons (pg_name (i := 1) sc_span_text.nd rfl (Or.inl rfl)) (pgs_cons (pg_name (i := 2) sc_span_text.nd rfl (Or.inl rfl)) pgs_nil))))
        (pss_one (ps_ret (pe_joined (.cons (pe_fmt (pe_call (ok_limit_text T) (hr.mono (by decide)) rfl T.m_limit_text T.F_limit_text.kp T.b_limit_text .nil pass0 (pa_cons (pv 1) pa_nil))) (.cons pe_str (.cons (pe_fmt (pe_call (ok_limit_text T) (hr.mono (by decide)) rfl T.m_limit_text T.F_limit_text.kp T.b_limit_text .nil pass0 (pa_cons (pv 2) pa_nil))) .nil)))))))), ?_⟩
    refine ⟨_, rfl, v, o, rfl, hv, fun e1 H1 s1 => ?_, fun e => k1 e⟩
    obtain ⟨s', rfl, os⟩ := spanO_of e1
    obtain ⟨m1, m2, k⟩ := k2 s' rfl os
    obtain ⟨a, rfl, ha⟩ := hv.sp
    have ha1 := same_t s1 ha
    have l1 := limS_ok m1
    have l2 := limS_ok m2
    refine ⟨_, rfl, a, _, rfl, ha1, rfl, _, _, rfl, _, _, rfl, rfl, ?_⟩
    have z1 : (limS s'.1).length ≤ 31 := l1.1
    have z2 : (limS s'.2).length ≤ 31 := l2.1
    have z3 : (".." : Str).length = 2 := by decide +kernel
    have z4 : 70 ≤ sizeLine := by decide
    refine ⟨_, rfl, s'.1, rfl, m1, .inl ⟨_, rfl, by omega, _, rfl, ?_, _, rfl, ?_, _, rfl, s'.2, rfl, m2, .inl ⟨_, rfl, by omega, _, rfl, ?_, ?_⟩⟩⟩
    · rw [emp_app]
      omega
    · rw [emp_app, Str.length_append]
      omega
    · rw [emp_app, Str.length_append, Str.length_append]
      omega
    · rw [emp_app]
      exact k H1 s1
theorem ok_read_span (T : Txt K mg) : FnOk P w K mg base (L2.CX P w) 4 T.f_read_span T.fd_read_span ["text"] (sp_read_span K T.C_InvalidText) := by
  refine T.F_read_span.okX sc_read_span (fun vs H Q E h => ?_) (fun cdv A outer s H vs Q E hr h => ?_)
  · obtain ⟨v, o, rfl, _⟩ := h
    rfl
  · obtain ⟨v, o, rfl, hv, k1, k2⟩ := h
    refine ⟨_, (pss_cons (ps_if (pt_not (pt_val (pe_callB (id := "isinstance") call_isi (by rfl) T.z_isinstance (by decide +kernel) (pa_cons (pv 0) (pa_cons (pe_bltn (v := .ty "str") (u := .type "str") (by rfl) T.z_str (by decide +kernel) rfl) pa_nil))))) (pss_one (ps_raise rfl (takes_of rfl rfl rfl rfl) (pmk_oex T.x_InvalidText T.i_InvalidText T.t_InvalidText (ok_InvalidText_init T) (hr.mono (by decide)) T.b_InvalidText_init .nil pass0 rfl T.g_InvalidText (pa_cons (pv 0) pa_nil)))) pss_nil)
        (pss_cons (ps_asg (pe_partition (pv 0) pe_str) (pg_tup rfl (pgs_cons (pg_name (i := 1) sc_read_span.nd rfl (Or.inl rfl)) (pgs_cons (pg_name (i := 2) sc_read_span.nd rfl (Or.inl rfl)) (pgs_cons (pg_name (i := 3) sc_read_span.nd rfl (Or.inl rfl)) pgs_nil)))))
        (pss_cons (ps_if (PW.pt (pw_or (pt_cmpR op_eq (pv 2) pe_str (nomark _)) (pw_or (pt_not (pt_val (pe_call (ok_is_limit_text T) (hr.mono (by decide)) rfl T.m_is_limit_text T.F_is_limit_text.kp T.b_is_limit_text .nil pass0 (pa_cons (pv 1) pa_nil)))) (pw_or1 (pt_not (pt_val (pe_call (ok_is_limit_text T) (hr.mono (by decide)) rfl T.m_is_limit_text T.F_is_limit_text.kp T.b_is_limit_text .nil pass0 (pa_cons (pv 3) pa_nil)))))))) (pss_one (ps_raise rfl (takes_of rfl rfl rfl rfl) (pmk_oex T.x_InvalidText T.i_InvalidText T.t_InvalidText (ok_InvalidText_init T) (hr.mono (by decide)) T.b_InvalidText_init .nil pass0 rfl T.g_InvalidText (pa_cons (pv 0) pa_nil)))) pss_nil)
        (pss_cons (ps_set (i := 4) sc_read_span.nd rfl (Or.inl rfl) (pe_tup (pa_cons (pe_call (ok_read_limit T) (hr.mono (by decide)) rfl T.m_read_limit T.F_read_limit.kp T.b_read_limit .nil pass0 (pa_cons (pv 1) pa_nil)) (pa_cons (pe_call (ok_read_limit T) (hr.mono (by decide)) rfl T.m_read_limit T.F_read_limit.kp T.b_read_limit .nil pass0 (pa_cons (pv 3) pa_nil)) pa_nil))))
        (pss_cons (ps_if (pt_not (pt_val (pe_call (ok_is_span T) hr rfl T.m_is_span T.F_is_span.kp T.b_is_span .nil pass0 (pa_cons (pv 4) pa_nil)))) (pss_one (ps_raise rfl (takes_of rfl rfl rfl rfl) (pmk_oex T.x_InvalidText T.i_InvalidText T.t_InvalidText (ok_InvalidText_init T) (hr.mono (by decide)) T.b_InvalidText_init .nil pass0 rfl T.g_InvalidText (pa_cons (pv 0) pa_nil)))) pss_nil)
        (pss_one (ps_ret (pv 4)))))))), ?_⟩
    refine ⟨_, rfl, _, _, _, _, _, rfl, .ty _, hv.ty, kit_o o (.inr (.inr (.inl rfl))), ?_⟩
    refine ⟨_, rfl, ?_⟩
    cases e : isT "str" o with
    | false =>
      have e2 : rdT o = none := by
        rcases o with _ | d
        · rfl
        · cases d with
          | str s => cases e
          | _ => rfl
      exact iteT ⟨_, rfl, raise_x T.x_InvalidText T.n_InvalidText (k1 e2)⟩
    | true =>
      obtain ⟨x, rfl, rfl, hx, _⟩ := hv.str_of e
      have hz : x.length ≤ sizeLine := Nat.le_trans hx (by decide)
      refine iteF ?_
      have k1 : rdO x = none → Rz H E T.C_InvalidText "value" (V.str x) := k1
      have k2 : ∀ s : Span, rdO x = some s → ∀ p H', Same H H' → H p = none → H' p = some (.tup (spV s)) → Q (.ref p) H' := k2
      obtain ⟨low, dots, high, eP, hlow, hhigh, eR⟩ := cut_parts x hx
      refine ⟨_, rfl, ⟨x, rfl⟩, x, _, rfl, rfl, (by decide +kernel), hz, fun p hp => ?_⟩
      rw [eP]
      have s1 := same_new (o := .tup [.str low, .str dots, .str high]) hp
      refine ⟨p, _, rfl, SqT.of upd_same, rfl, _, _, rfl, _, _, rfl, _, _, rfl, rfl, ?_⟩
      have bad : ∀ H2, Same H H2 → rdO x = none → Rz H2 E T.C_InvalidText "value" (V.str x) := fun H2 s2 e => (k1 e).back s2
      refine ⟨_, rfl, rfl, _, rfl, ?_⟩
      rw [dec_str]
      cases ed : dots == ("" : Str) with
      | true =>
        rw [ed] at eR
        exact iteT (iteT ⟨_, rfl, raise_x T.x_InvalidText T.n_InvalidText (bad _ s1 eR)⟩)
      | false =>
        rw [ed, if_neg (by decide)] at eR
        refine iteF ⟨_, rfl, low, rfl, hlow, fun H2 s2 => ⟨_, rfl, ?_⟩⟩
        have s12 := s1.trans s2
        cases el : limT low with
        | none =>
          have : limB low = false := by unfold limB; rw [el]; rfl
          rw [this]
          rw [el] at eR
          exact iteT (iteT ⟨_, rfl, raise_x T.x_InvalidText T.n_InvalidText (bad _ s12 eR)⟩)
        | some a =>
          have : limB low = true := by unfold limB; rw [el]; rfl
          rw [this]
          refine iteF ⟨_, rfl, high, rfl, hhigh, fun H3 s3 => ⟨_, rfl, ?_⟩⟩
          have s13 := s12.trans s3
          rw [el] at eR
          cases eh : limT high with
          | none =>
            have : limB high = false := by unfold limB; rw [eh]; rfl
            rw [this]
            rw [eh] at eR
            exact iteT ⟨_, rfl, raise_x T.x_InvalidText T.n_InvalidText (bad _ s13 eR)⟩
          | some b =>
            have : limB high = true := by unfold limB; rw [eh]; rfl
            rw [this]
            rw [eh] at eR
            refine iteF ⟨_, rfl, low, a, rfl, hlow, el, _, rfl, high, b, rfl, hhigh, eh, (by show 2 ≤ sizeLine; decide), fun q hq => ?_⟩
            have s4 := same_new (o := .tup [limV a, limV b]) hq
            refine ⟨_, rfl, _, some (spD (a, b)), rfl, vd_sp (SqT.of upd_same), fun H5 s5 => ⟨_, rfl, ?_⟩⟩
            rw [spanO_ok]
            have sf := (s13.trans s4).trans s5
            have eR : rdO x = if okS (a, b) = true then some (a, b) else none := eR
            cases ec : okS (a, b) with
            | false =>
              rw [ec] at eR
              exact iteT ⟨_, rfl, raise_x T.x_InvalidText T.n_InvalidText (bad _ sf eR)⟩
            | true =>
              rw [ec] at eR
              exact iteF ⟨_, rfl, k2 _ eR q H5 sf (s13.free hq) (s5 _ _ upd_same)⟩
theorem ok_law_span (T : Txt K mg) : FnOk P w K mg base CX0 2 T.f_law_span T.fd_law_span ["_law_box_here"] (sp_draw 4 fun H v => ∃ p s, v = .ref p ∧ H p = some (.tup (spV s)) ∧ okS s = true ∧ smO s.1 ∧ smO s.2) := by
  refine T.F_law_span.ok sc_law_span (fun vs H Q E h => ?_) (fun cdv A outer s H vs Q E hr h => ?_)
  · obtain ⟨H0, p, n, rfl, _⟩ := h
    rfl
  · obtain ⟨H0, p, n, rfl, B, hn, k⟩ := h
    refine ⟨_, (pss_cons (ps_set (i := 1) sc_law_span.nd rfl (Or.inl rfl) (pe_ix ix_list (pe_lst (pa_cons pe_int (pa_cons pe_int (pa_cons (pe_op op_pow pe_int pe_int) (pa_cons (pe_op op_pow pe_int pe_int) pa_nil))))) (pe_call (ok_law_take T) hr rfl T.m_law_take T.F_law_take.kp T.b_law_take .nil pass0 (pa_cons (pv 0) (pa_cons pe_int pa_nil))) (fun _ _ => rfl)))
        (pss_cons (ps_set (i := 2) sc_law_span.nd rfl (Or.inl rfl) (pe_op op_mul (pe_op op_sub (pe_call (ok_law_take T) hr rfl T.m_law_take T.F_law_take.kp T.b_law_take .nil pass0 (pa_cons (pv 0) (pa_cons pe_int pa_nil))) pe_int) (pv 1)))
        (pss_cons (ps_set (i := 3) sc_law_span.nd rfl (Or.inl rfl) (pe_op op_add (pv 2) (pe_op op_mul (pe_op op_add pe_int (pe_call (ok_law_take T) hr rfl T.m_law_take T.F_law_take.kp T.b_law_take .nil pass0 (pa_cons (pv 0) (pa_cons pe_int pa_nil)))) (pv 1))))
        (pss_one (ps_ret (pe_ix ix_list (pe_lst (pa_cons (pe_tup (pa_cons (pv 2) (pa_cons (pv 3) pa_nil))) (pa_cons (pe_tup (pa_cons (pv 2) (pa_cons (pv 3) pa_nil))) (pa_cons (pe_tup (pa_cons pe_non (pa_cons (pv 3) pa_nil))) (pa_cons (pe_tup (pa_cons (pv 2) (pa_cons pe_non pa_nil))) (pa_cons (pe_tup (pa_cons pe_non (pa_cons pe_non pa_nil))) pa_nil)))))) (pe_call (ok_law_take T) hr rfl T.m_law_take T.F_law_take.kp T.b_law_take .nil pass0 (pa_cons (pv 0) (pa_cons pe_int pa_nil))) (fun _ _ => rfl))))))), ?_⟩
    refine ⟨_, _, rfl, rfl, ⟨by decide, by decide, by decide⟩, _, _, rfl, rfl, ⟨by decide, by decide, by decide⟩, (by show 4 ≤ sizeLine; decide), fun l hl => ?_⟩
    have B1 := B.new (o := .lst [.int 1, .int 1, .int (10 ^ (28 : Int).toNat), .int (10 ^ (15 : Int).toNat)]) hl
    refine ⟨_, rfl, _, p, _, 4, rfl, B1.1, by omega, by decide, by decide, fun z2 H2 z20 z21 B2 => ?_⟩
    obtain ⟨v, hv, hm⟩ := atI_in (xs := [V.int 1, .int 1, .int (10 ^ (28 : Int).toNat), .int (10 ^ (15 : Int).toNat)]) z20 z21
    obtain ⟨g, rfl, hg, hg2⟩ : ∃ g : Int, v = .int g ∧ 0 < g ∧ g ≤ 10000000000000000000000000000 := by
      simp only [List.mem_cons, List.not_mem_nil, or_false] at hm
      rcases hm with rfl | rfl | rfl | rfl
      all_goals exact ⟨_, rfl, by decide, by decide⟩
    refine ⟨l, _, z2, _, rfl, rfl, SqL.of (B2.same _ _ upd_same), hv, ?_⟩
    refine ⟨_, rfl, _, p, _, 41, rfl, B2, by omega, by decide, by decide, fun z3 H3 z30 z31 B3 => ?_⟩
    refine ⟨_, _, rfl, rfl, _, rfl, _, _, rfl, rfl, .inl ⟨by omega, by omega⟩, ?_⟩
    refine ⟨_, rfl, _, rfl, _, p, _, 30, rfl, B3, by omega, by decide, by decide, fun z4 H4 z40 z41 B4 => ?_⟩
    refine ⟨_, _, rfl, rfl, _, rfl, _, _, rfl, rfl, .inl ⟨by omega, by omega⟩, _, _, rfl, rfl, ?_⟩
    have hpos : (z3 - 20) * g < (z3 - 20) * g + (1 + z4) * g := by
      have : 0 < (1 + z4) * g := Int.mul_pos (by omega) hg
      omega
    have b1 : (z3 - 20) * g ≤ 20 * g := Int.mul_le_mul_of_nonneg_right (by omega) (by omega)
    have b2 : (-20) * g ≤ (z3 - 20) * g := Int.mul_le_mul_of_nonneg_right (by omega) (by omega)
    have b3 : (1 + z4) * g ≤ 30 * g := Int.mul_le_mul_of_nonneg_right (by omega) (by omega)
    have hlow : smO (some ((z3 - 20) * g)) := by
      show ((z3 - 20) * g).natAbs < 1000000000000000000000000000000
      generalize (z3 - 20) * g = u at *
      omega
    have hhigh : smO (some ((z3 - 20) * g + (1 + z4) * g)) := by
      show ((z3 - 20) * g + (1 + z4) * g).natAbs < 1000000000000000000000000000000
      generalize (z3 - 20) * g = u at *
      generalize (1 + z4) * g = u2 at *
      omega
    refine ⟨_, rfl, _, rfl, (by show 2 ≤ sizeLine; decide), fun t1 h1 => ?_⟩
    have C1 := B4.new (o := .tup [.int ((z3 - 20) * g), .int ((z3 - 20) * g + (1 + z4) * g)]) h1
    refine ⟨_, rfl, _, rfl, (by show 2 ≤ sizeLine; decide), fun t2 h2 => ?_⟩
    have C2 := C1.1.new (o := .tup [.int ((z3 - 20) * g), .int ((z3 - 20) * g + (1 + z4) * g)]) h2
    refine ⟨_, rfl, (by show 2 ≤ sizeLine; decide), fun t3 h3 => ?_⟩
    have C3 := C2.1.new (o := .tup [.non, .int ((z3 - 20) * g + (1 + z4) * g)]) h3
    refine ⟨_, rfl, (by show 2 ≤ sizeLine; decide), fun t4 h4 => ?_⟩
    have C4 := C3.1.new (o := .tup [.int ((z3 - 20) * g), .non]) h4
    refine ⟨(by show 2 ≤ sizeLine; decide), fun t5 h5 => ?_⟩
    have C5 := C4.1.new (o := .tup [.non, .non]) h5
    refine ⟨(by show 5 ≤ sizeLine; decide), fun l2 hl2 => ?_⟩
    have C6 := C5.1.new (o := .lst [.ref t1, .ref t2, .ref t3, .ref t4, .ref t5]) hl2
    refine ⟨_, rfl, _, p, _, 5, rfl, C6.1, by omega, by decide, by decide, fun z5 H5 z50 z51 B5 => ?_⟩
    obtain ⟨v, hv, hm⟩ := atI_in (xs := [V.ref t1, .ref t2, .ref t3, .ref t4, .ref t5]) z50 z51
    refine ⟨l2, _, z5, v, rfl, rfl, SqL.of (B5.same _ _ upd_same), hv, ?_⟩
    have m6 := C6.2
    have m5 := C5.2.trans m6
    have m4 := C4.2.trans m5
    have m3 := C3.2.trans m4
    have m2 := C2.2.trans m3
    refine k _ H5 v (B1.2.trans (C1.2.trans m2)) B5 ?_
    simp only [List.mem_cons, List.not_mem_nil, or_false] at hm
    rcases hm with rfl | rfl | rfl | rfl | rfl
    · exact ⟨t1, (some ((z3 - 20) * g), some ((z3 - 20) * g + (1 + z4) * g)), rfl, m2 _ _ upd_same, decide_eq_true hpos, hlow, hhigh⟩
    · exact ⟨t2, (some ((z3 - 20) * g), some ((z3 - 20) * g + (1 + z4) * g)), rfl, m3 _ _ upd_same, decide_eq_true hpos, hlow, hhigh⟩
    · exact ⟨t3, (none, some ((z3 - 20) * g + (1 + z4) * g)), rfl, m4 _ _ upd_same, rfl, trivial, hhigh⟩
    · exact ⟨t4, (some ((z3 - 20) * g), none), rfl, m5 _ _ upd_same, rfl, hlow, trivial⟩
    · exact ⟨t5, (none, none), rfl, m6 _ _ upd_same, rfl, trivial, trivial⟩
theorem ok_law_number (T : Txt K mg) : FnOk P w K mg base CX0 1 T.f_law_number T.fd_law_number ["_law_word"] (sp_law_number K) := by
  refine T.F_law_number.ok sc_law_number (fun vs H Q E h => ?_) (fun cdv A outer s H vs Q E hr h => ?_)
  · obtain ⟨w, rfl, _⟩ := h
    rfl
  · obtain ⟨w, rfl, hw, ho, k⟩ := h
    have hz : w.length ≤ sizeLine := Nat.le_trans hw (by decide)
    refine ⟨_, (pss_cons (ps_set (i := 1) sc_law_number.nd rfl (Or.inl rfl) (pe_ifExp (pt_cmpR op_eq (pe_slice sl_str (pv 0) po_none (po_some pe_int)) pe_str (nomark _)) (pe_slice sl_str (pv 0) (po_some pe_int) po_none) (pv 0)))
        (pss_cons (ps_if (PW.pt (pw_or (pt_cmpR op_eq (pv 1) pe_str (nomark _)) (pw_or (pt_cmpR op_gt (pe_callB (id := "len") call_len_str (by rfl) T.z_len (by decide +kernel) (pa_cons (pv 1) pa_nil)) pe_int (nomark _)) (pw_or1 (pt_cmpR (op_neD hr.units) (pe_lc (own := [("_law_sign", 2)]) (g := gName 2) rfl sc_law_number.nd (pi_str (pv 1)) (blkOk_by (own := [("_law_sign", 2)]) (N := ["_law_word", "_law_digits", "_law_sign"]) (sc := defScope s_law_number) (by decide +kernel)) (fun _ _ _ _ _ => (pg_name (i := 2) sc_law_number.nd rfl (Or.inl rfl))) (fun _ _ _ _ _ => (pts_one (pt_cmpR op_notIn_sign (pv 2) pe_str (by rfl)))) (fun _ _ _ _ _ => (pv 2))) (pe_lst pa_nil) (nomark _)))))) (pss_one (ps_ret pe_non)) pss_nil)
        (pss_cons (ps_if (PW.pt (pw_and (pt_cmpR op_eq (pe_ix ix_str (pv 1) pe_int (fun _ _ => rfl)) pe_str (nomark _)) (pw_and1 (pt_cmpR op_ne (pv 0) pe_str (nomark _))))) (pss_one (ps_ret pe_non)) pss_nil)
        (pss_one (ps_ret (pe_callTy (T := "int") call_int_str (by rfl) T.z_int (by decide +kernel) (pa_cons (pv 0) pa_nil))))))), ?_⟩
    have k : ∀ H', Same H H' → Q (limV (if (digOk (sgn (tl w)).2 && !zeroed (tl w)) = true then some (worth (tl w)) else none)) H' := k
    refine ⟨_, rfl, _, rfl, _, rfl, hz, rfl, _, rfl, ?_⟩
    rw [dec_str, minus_is]
    cases es : (sgn (tl w)).1 with
    | true =>
      have ed : tl (cutS w (some (1 : Int)) none) = (sgn (tl w)).2 := cut1_tl w es
      have hxl : (cutS w (some (1 : Int)) none).length ≤ 1000 := Nat.le_trans (cutS_length _ _ _) hw
      have hxz : (cutS w (some (1 : Int)) none).length ≤ sizeLine := Nat.le_trans hxl (by decide)
      have hxo : PyData.strOk (cutS w (some (1 : Int)) none) = true := (sOk.cut ⟨hw, ho⟩ _ _).2
      refine iteT ⟨_, rfl, _, rfl, _, rfl, hz, ?_⟩
      generalize cutS w (some (1 : Int)) none = x at ed hxl hxz hxo ⊢
      refine ⟨_, rfl, rfl, _, rfl, ?_⟩
      rw [dec_str, str_nil]
      cases c0 : (tl x).isEmpty with
      | true =>
        have hd : digOk (sgn (tl w)).2 = false := by
          rw [← ed]
          cases h : tl x with
          | nil => rfl
          | cons a r => rw [h] at c0; cases c0
        rw [hd] at k
        exact iteT (iteT (k H (Same.refl H)))
      | false =>
        have hlen : x.length = (sgn (tl w)).2.length := by
          rw [← ed]
          exact TL.len_tl _
        have h1 : decide (1 ≤ (sgn (tl w)).2.length) = true := by
          rw [← ed]
          cases h : tl x with
          | nil => rw [h] at c0; cases c0
          | cons a r => exact decide_eq_true (by simp)
        refine iteF ⟨_, rfl, _, rfl, hxz, _, _, rfl, rfl, _, rfl, ?_⟩
        cases c1 : decide ((30 : Int) < x.length) with
        | true =>
          have hd : digOk (sgn (tl w)).2 = false := by
            unfold digOk
            have : decide ((sgn (tl w)).2.length ≤ 30) = false := decide_eq_false fun q => absurd (of_decide_eq_true c1) (by omega)
            rw [this]
            cases decide (1 ≤ (sgn (tl w)).2.length) <;> rfl
          rw [hd] at k
          exact iteT (iteT (k H (Same.refl H)))
        | false =>
          have h2 : decide ((sgn (tl w)).2.length ≤ 30) = true := decide_eq_true (by have := of_decide_eq_false c1; omega)
          have hd : digOk (sgn (tl w)).2 = x.cps.toList.all isDig := by
            have e3 : x.cps.toList = (sgn (tl w)).2 := ed
            unfold digOk
            rw [e3, h1, h2]
            rfl
          refine iteF ⟨_, rfl, _, rfl, fun D hD => ?_⟩
          refine lc_acc walk_str hD (fun _ _ => trivial) (fun i => ((x.cps.toList.take i).filter fun c => !isDig c).map fun c => V.str ⟨#[c]⟩) rfl (fun i hi => ?_) ?_ ?_
          · rw [List.length_map]
            have h1 := List.length_filter_le (fun c => !isDig c) (x.cps.toList.take i)
            rw [List.length_take] at h1
            have : x.cps.size ≤ 1000 := hxl
            exact Nat.lt_of_le_of_lt h1 (Nat.lt_of_le_of_lt (Nat.min_le_left _ _) (Nat.lt_of_lt_of_le hi (Nat.le_trans this (by decide))))
          · rintro i y H2 hi ⟨c, hc, rfl⟩ s1 R S r1 r2
            have hc' : x.cps.toList[i]? = some c := by rw [Array.getElem?_toList]; exact hc
            refine ⟨rfl, _, rfl, c, _, rfl, rfl, _, rfl, ?_⟩
            rw [dig_in]
            cases e4 : isDig c with
            | true =>
              refine iteF (r2 _ ?_ (Same.refl _))
              rw [List.take_add_one, hc']
              simp [e4]
            | false =>
              refine iteT ⟨_, rfl, r1 _ _ ?_ (Same.refl _)⟩
              rw [List.take_add_one, hc']
              simp [e4]
          · intro H2 s1 hl
            have ht : x.cps.toList.take x.cps.size = x.cps.toList := by rw [← Array.length_toList, List.take_length]
            rw [ht] at hl
            refine ⟨Nat.zero_le _, fun q hq => ?_⟩
            have s2 := same_new (o := .lst []) hq
            have hq2 : Dp K (upd H2 q (.lst [])) (.ref q) (.list []) := .lst (SqL.of upd_same) .nil
            have hl2 : Dp K (upd H2 q (.lst [])) (.ref D) (.list ((x.cps.toList.filter fun c => !isDig c).map fun c => PyData.str ⟨#[c]⟩)) := by
              refine .lst (SqL.of (s2 _ _ hl)) ?_
              have := dpAll_strs (K := K) (H := upd H2 q (.lst [])) ((x.cps.toList.filter fun c => !isDig c).map fun c => (⟨#[c]⟩ : Str))
              rw [List.map_map, List.map_map] at this
              exact this
            refine ⟨_, _, hl2, hq2, shaped_list (n := 1) (by decide) (fun d hd => ?_), shaped_nil, ?_⟩
            · obtain ⟨c, hc, rfl⟩ := List.mem_map.mp hd
              refine ⟨?_, by simp [PyData.depth]⟩
              simp only [PyData.canLay0]
              exact strOk_sign (strOk_mem hxo (List.mem_filter.mp hc).1)
            · rw [eqv_nil]
              have ee : (((x.cps.toList.filter fun c => !isDig c).map fun c => PyData.str ⟨#[c]⟩).isEmpty) = x.cps.toList.all isDig := by
                rw [List.isEmpty_map]
                generalize x.cps.toList = l
                induction l with
                | nil => rfl
                | cons a r ih => cases h : isDig a <;> simp [h, ih]
              rw [ee]
              have sf := s1.trans s2
              refine ⟨_, rfl, ?_⟩
              cases e5 : x.cps.toList.all isDig with
              | false =>
                rw [hd, e5] at k
                exact iteT (k _ sf)
              | true =>
                rw [hd, e5] at k
                have hd2 : digOk (sgn (tl w)).2 = true := hd.trans e5
                refine iteF ?_
                cases hr0 : tl x with
                | nil => rw [hr0] at c0; cases c0
                | cons a r =>
                  have ha : atI x.cps.toList 0 = some a := by
                    have e3 : x.cps.toList = a :: r := hr0
                    rw [e3]
                    exact atI_nat (j := 0) rfl
                  refine ⟨_, rfl, _, 0, a, rfl, rfl, hxz, ha, rfl, _, rfl, ?_⟩
                  rw [dec_str, sign_is]
                  have hzz : zeroed (tl w) = ((a :: r).head? == some 48 && !(w == ("0" : Str))) := by rw [zeroed_is, ← ed, hr0]
                  rw [hzz] at k
                  cases ea : (some a == some 48) with
                  | false =>
                    have ea' : ((a :: r).head? == some 48) = false := ea
                    rw [ea'] at k
                    exact iteF (iteF ⟨_, rfl, w, _, rfl, int_of hd2, Nat.le_trans (digOk_len hd2) (by decide), k _ sf⟩)
                  | true =>
                    have ea' : ((a :: r).head? == some 48) = true := ea
                    rw [ea'] at k
                    refine iteT ⟨_, rfl, rfl, _, rfl, ?_⟩
                    rw [dec_str]
                    cases ew : (w == ("0" : Str)) with
                    | true =>
                      rw [ew] at k
                      exact iteF ⟨_, rfl, w, _, rfl, int_of hd2, Nat.le_trans (digOk_len hd2) (by decide), k _ sf⟩
                    | false =>
                      rw [ew] at k
                      exact iteT (k _ sf)
    | false =>
      have ed : tl w = (sgn (tl w)).2 := by
        rcases sgn_cases (tl w) with ⟨r, _, e2⟩ | ⟨_, e2⟩
        · rw [e2] at es
          cases es
        · rw [e2]
      have hxl := hw
      have hxz := hz
      have hxo := ho
      refine iteF ⟨_, rfl, ?_⟩
      refine ⟨_, rfl, rfl, _, rfl, ?_⟩
      rw [dec_str, str_nil]
      cases c0 : (tl w).isEmpty with
      | true =>
        have hd : digOk (sgn (tl w)).2 = false := by
          rw [← ed]
          cases h : tl w with
          | nil => rfl
          | cons a r => rw [h] at c0; cases c0
        rw [hd] at k
        exact iteT (iteT (k H (Same.refl H)))
      | false =>
        have hlen : w.length = (sgn (tl w)).2.length := by
          rw [← ed]
          exact TL.len_tl _
        have h1 : decide (1 ≤ (sgn (tl w)).2.length) = true := by
          rw [← ed]
          cases h : tl w with
          | nil => rw [h] at c0; cases c0
          | cons a r => exact decide_eq_true (by simp)
        refine iteF ⟨_, rfl, _, rfl, hxz, _, _, rfl, rfl, _, rfl, ?_⟩
        cases c1 : decide ((30 : Int) < w.length) with
        | true =>
          have hd : digOk (sgn (tl w)).2 = false := by
            unfold digOk
            have : decide ((sgn (tl w)).2.length ≤ 30) = false := decide_eq_false fun q => absurd (of_decide_eq_true c1) (by omega)
            rw [this]
            cases decide (1 ≤ (sgn (tl w)).2.length) <;> rfl
          rw [hd] at k
          exact iteT (iteT (k H (Same.refl H)))
        | false =>
          have h2 : decide ((sgn (tl w)).2.length ≤ 30) = true := decide_eq_true (by have := of_decide_eq_false c1; omega)
          have hd : digOk (sgn (tl w)).2 = w.cps.toList.all isDig := by
            have e3 : w.cps.toList = (sgn (tl w)).2 := ed
            unfold digOk
            rw [e3, h1, h2]
            rfl
          refine iteF ⟨_, rfl, _, rfl, fun D hD => ?_⟩
          refine lc_acc walk_str hD (fun _ _ => trivial) (fun i => ((w.cps.toList.take i).filter fun c => !isDig c).map fun c => V.str ⟨#[c]⟩) rfl (fun i hi => ?_) ?_ ?_
          · rw [List.length_map]
            have h1 := List.length_filter_le (fun c => !isDig c) (w.cps.toList.take i)
            rw [List.length_take] at h1
            have : w.cps.size ≤ 1000 := hxl
            exact Nat.lt_of_le_of_lt h1 (Nat.lt_of_le_of_lt (Nat.min_le_left _ _) (Nat.lt_of_lt_of_le hi (Nat.le_trans this (by decide))))
          · rintro i y H2 hi ⟨c, hc, rfl⟩ s1 R S r1 r2
            have hc' : w.cps.toList[i]? = some c := by rw [Array.getElem?_toList]; exact hc
            refine ⟨rfl, _, rfl, c, _, rfl, rfl, _, rfl, ?_⟩
            rw [dig_in]
            cases e4 : isDig c with
            | true =>
              refine iteF (r2 _ ?_ (Same.refl _))
              rw [List.take_add_one, hc']
              simp [e4]
            | false =>
              refine iteT ⟨_, rfl, r1 _ _ ?_ (Same.refl _)⟩
              rw [List.take_add_one, hc']
              simp [e4]
          · intro H2 s1 hl
            have ht : w.cps.toList.take w.cps.size = w.cps.toList := by rw [← Array.length_toList, List.take_length]
            rw [ht] at hl
            refine ⟨Nat.zero_le _, fun q hq => ?_⟩
            have s2 := same_new (o := .lst []) hq
            have hq2 : Dp K (upd H2 q (.lst [])) (.ref q) (.list []) := .lst (SqL.of upd_same) .nil
            have hl2 : Dp K (upd H2 q (.lst [])) (.ref D) (.list ((w.cps.toList.filter fun c => !isDig c).map fun c => PyData.str ⟨#[c]⟩)) := by
              refine .lst (SqL.of (s2 _ _ hl)) ?_
              have := dpAll_strs (K := K) (H := upd H2 q (.lst [])) ((w.cps.toList.filter fun c => !isDig c).map fun c => (⟨#[c]⟩ : Str))
              rw [List.map_map, List.map_map] at this
              exact this
            refine ⟨_, _, hl2, hq2, shaped_list (n := 1) (by decide) (fun d hd => ?_), shaped_nil, ?_⟩
            · obtain ⟨c, hc, rfl⟩ := List.mem_map.mp hd
              refine ⟨?_, by simp [PyData.depth]⟩
              simp only [PyData.canLay0]
              exact strOk_sign (strOk_mem hxo (List.mem_filter.mp hc).1)
            · rw [eqv_nil]
              have ee : (((w.cps.toList.filter fun c => !isDig c).map fun c => PyData.str ⟨#[c]⟩).isEmpty) = w.cps.toList.all isDig := by
                rw [List.isEmpty_map]
                generalize w.cps.toList = l
                induction l with
                | nil => rfl
                | cons a r ih => cases h : isDig a <;> simp [h, ih]
              rw [ee]
              have sf := s1.trans s2
              refine ⟨_, rfl, ?_⟩
              cases e5 : w.cps.toList.all isDig with
              | false =>
                rw [hd, e5] at k
                exact iteT (k _ sf)
              | true =>
                rw [hd, e5] at k
                have hd2 : digOk (sgn (tl w)).2 = true := hd.trans e5
                refine iteF ?_
                cases hr0 : tl w with
                | nil => rw [hr0] at c0; cases c0
                | cons a r =>
                  have ha : atI w.cps.toList 0 = some a := by
                    have e3 : w.cps.toList = a :: r := hr0
                    rw [e3]
                    exact atI_nat (j := 0) rfl
                  refine ⟨_, rfl, _, 0, a, rfl, rfl, hxz, ha, rfl, _, rfl, ?_⟩
                  rw [dec_str, sign_is]
                  have hzz : zeroed (tl w) = ((a :: r).head? == some 48 && !(w == ("0" : Str))) := by rw [zeroed_is, ← ed, hr0]
                  rw [hzz] at k
                  cases ea : (some a == some 48) with
                  | false =>
                    have ea' : ((a :: r).head? == some 48) = false := ea
                    rw [ea'] at k
                    exact iteF (iteF ⟨_, rfl, w, _, rfl, int_of hd2, Nat.le_trans (digOk_len hd2) (by decide), k _ sf⟩)
                  | true =>
                    have ea' : ((a :: r).head? == some 48) = true := ea
                    rw [ea'] at k
                    refine iteT ⟨_, rfl, rfl, _, rfl, ?_⟩
                    rw [dec_str]
                    cases ew : (w == ("0" : Str)) with
                    | true =>
                      rw [ew] at k
                      exact iteF ⟨_, rfl, w, _, rfl, int_of hd2, Nat.le_trans (digOk_len hd2) (by decide), k _ sf⟩
                    | false =>
                      rw [ew] at k
                      exact iteT (k _ sf)
theorem ok_law_read (T : Txt K mg) : FnOk P w K mg base CX0 2 T.f_law_read T.fd_law_read ["_law_text"] (sp_law_read K) := by
  refine T.F_law_read.ok sc_law_read (fun vs H Q E h => ?_) (fun cdv A outer s H vs Q E hr h => ?_)
  · obtain ⟨x, rfl, _⟩ := h
    rfl
  · obtain ⟨x, rfl, hx, ho, k1, k2⟩ := h
    have hz : x.length ≤ sizeLine := Nat.le_trans hx (by decide)
    refine ⟨_, (pss_cons (ps_set (i := 1) sc_law_read.nd rfl (Or.inl rfl) (pe_m1 PySem.F.slot_str_find PySem.F.type_str_find mt_find (pv 0) pe_str))
        (pss_cons (ps_if (pt_cmpR op_lt (pv 1) pe_int (nomark _)) (pss_one (ps_ret pe_non)) pss_nil)
        (pss_cons (ps_set (i := 2) sc_law_read.nd rfl (Or.inr rfl) (pe_lst (pa_cons (pe_slice sl_str (pv 0) po_none (po_some (pv 1))) (pa_cons (pe_slice sl_str (pv 0) (po_some (pe_op op_add (pv 1) pe_int)) po_none) pa_nil))))
        (pss_cons (ps_set (i := 3) sc_law_read.nd rfl (Or.inr rfl) (pe_lc (own := [("_law_word", 4)]) (g := gName 4) (tt := tYes) rfl sc_law_read.nd (pi_list (pv 2)) (blkOk_by (own := [("_law_word", 4)]) (N := ["_law_text", "_law_at", "_law_words", "_law_limits", "_law_word", "_law_k"]) (sc := defScope s_law_read) (by decide +kernel)) (fun _ _ _ _ _ => (pg_name (i := 4) sc_law_read.nd rfl (Or.inl rfl))) (fun _ _ _ _ _ => pts_nil) (fun _ _ _ _ _ => (pe_call (ok_law_number T) hr rfl T.m_law_number T.F_law_number.kp T.b_law_number .nil pass0 (pa_cons (pv 4) pa_nil)))))
        (pss_cons (ps_if (pt_cmpR (op_neD hr.units) (pe_lc (own := [("_law_k", 5)]) (g := gName 5) rfl sc_law_read.nd (pi_list (pe_lst (pa_cons pe_int (pa_cons pe_int pa_nil)))) (blkOk_by (own := [("_law_k", 5)]) (N := ["_law_text", "_law_at", "_law_words", "_law_limits", "_law_word", "_law_k"]) (sc := defScope s_law_read) (by decide +kernel)) (fun _ _ _ _ _ => (pg_name (i := 5) sc_law_read.nd rfl (Or.inl rfl))) (fun _ _ _ _ _ => (pts_one (PW.pt (pw_and (pt_cmpR op_ne (pe_ix (r := rIxL K) ix_list (pv 2) (pv 5) (fun _ _ => rfl)) pe_str (nomark _)) (pw_and1 (pt_cmpR op_isN (pe_ix (r := rIxL K) ix_list (pv 3) (pv 5) (fun _ _ => rfl)) pe_non (nomark _))))))) (fun _ _ _ _ _ => (pv 5))) (pe_lst pa_nil) (nomark _)) (pss_one (ps_ret pe_non)) pss_nil)
        (pss_cons (ps_if (PW.pt (pw_and (pt_cmpR op_notN (pe_ix ix_list (pv 3) pe_int (fun _ _ => rfl)) pe_non (nomark _)) (pw_and (pt_cmpR op_notN (pe_ix ix_list (pv 3) pe_int (fun _ _ => rfl)) pe_non (nomark _)) (pw_and1 (pt_cmpR op_ge (pe_ix ix_list (pv 3) pe_int (fun _ _ => rfl)) (pe_ix ix_list (pv 3) pe_int (fun _ _ => rfl)) (nomark _)))))) (pss_one (ps_ret pe_non)) pss_nil)
        (pss_one (ps_ret (pe_tup (pa_cons (pe_ix ix_list (pv 3) pe_int (fun _ _ => rfl)) (pa_cons (pe_ix ix_list (pv 3) pe_int (fun _ _ => rfl)) pa_nil))))))))))), ?_⟩
    refine ⟨_, rfl, ⟨x, rfl⟩, x, _, rfl, rfl, _, rfl, _, _, rfl, rfl, _, rfl, ?_⟩
    have k1 : rdO x = none → ∀ H', Same H H' → Q .non H' := k1
    rcases cut_cases x with ⟨e1, e2⟩ | ⟨i, hi, e1, e2⟩
    · rw [e1]
      exact iteT (k1 (by unfold rdO; rw [if_pos e1]) H (Same.refl H))
    · rw [e1]
      have eR : rdO x = pairO (limT (cutS x none (some (i : Int)))) (limT (cutS x (some ((i : Int) + 2)) none)) := by
        unfold rdO
        rw [if_neg (by rw [e1]; omega), e2]
      refine iteFe (decide_eq_false (by omega)) ?_
      refine ⟨_, rfl, _, rfl, _, rfl, _, rfl, hz, _, rfl, _, rfl, _, _, rfl, rfl, _, rfl, _, rfl, hz, (by show 2 ≤ sizeLine; decide), fun wl hwl => ?_⟩
      have hlow : (cutS x none (some (i : Int))).length ≤ 1000 ∧ PyData.strOk (cutS x none (some (i : Int))) = true := sOk.cut ⟨hx, ho⟩ _ _
      have hhigh : (cutS x (some ((i : Int) + 2)) none).length ≤ 1000 ∧ PyData.strOk (cutS x (some ((i : Int) + 2)) none) = true := sOk.cut ⟨hx, ho⟩ _ _
      generalize cutS x none (some (i : Int)) = low at *
      generalize cutS x (some ((i : Int) + 2)) none = high at *
      have s1 := same_new (o := .lst [.str low, .str high]) hwl
      have hwl1 : (upd H wl (.lst [.str low, .str high])) wl = some (.lst [.str low, .str high]) := upd_same
      refine ⟨_, rfl, wl, rfl, ⟨_, SqL.of upd_same⟩, fun D hD => ?_⟩
      refine lc_acc walk_list hD (fun H' k => SqL.of (k _ _ upd_same)) (fun i => (([low, high].take i).map fun w => limV (numO (tl w)))) rfl (fun i _ => ?_) ?_ ?_
      · rw [List.length_map, List.length_take]
        exact Nat.lt_of_le_of_lt (Nat.min_le_right _ _) (by show 2 < sizeLine; decide)
      · rintro j z H2 hj hz' s2 R S r1 r2
        have hz2 : ([low, high].map V.str)[j]? = some z := hz'
        rw [List.getElem?_map] at hz2
        obtain ⟨u, hu, rfl⟩ := Option.map_eq_some_iff.mp hz2
        have hu2 : u.length ≤ 1000 ∧ PyData.strOk u = true := by
          have := List.mem_of_getElem? hu
          simp only [List.mem_cons, List.not_mem_nil, or_false] at this
          rcases this with rfl | rfl
          · exact hlow
          · exact hhigh
        exact ⟨rfl, tyes ⟨_, rfl, u, rfl, hu2.1, hu2.2, fun H' s' => r1 _ H' (by rw [List.take_add_one, hu]; simp) s'⟩⟩
      intro H2 s2 hl
      have hl2 : H2 D = some (.lst [limV (numO (tl low)), limV (numO (tl high))]) := hl
      have hwl2 := s2 _ _ hwl1
      have s12 := s1.trans s2
      refine ⟨(by show 2 ≤ sizeLine; decide), fun zl hzl => ?_⟩
      have s3 := same_new (o := .lst [.int 0, .int 1]) hzl
      have hl3 := s3 _ _ hl2
      have hwl3 := s3 _ _ hwl2
      refine ⟨zl, rfl, ⟨_, SqL.of upd_same⟩, fun D2 hD2 => ?_⟩
      refine lc_acc walk_list hD2 (fun H' k => SqL.of (k _ _ upd_same)) (fun i => (badK (limT low) (limT high) i).map V.int) rfl (fun i _ => ?_) ?_ ?_
      · rw [List.length_map]
        exact Nat.lt_of_le_of_lt (badK_len _ _ _) (by show 2 < sizeLine; decide)
      · rintro j z H4 hj hz' k5 R S r1 r2
        have hz : [V.int 0, V.int 1][j]? = some z := hz'
        have hb1 : badK (limT low) (limT high) 1 = badK (limT low) (limT high) 0 ++ (if (limT low).isNone = true then [0] else []) := by
          cases limT low <;> rfl
        have hb2 : badK (limT low) (limT high) 2 = badK (limT low) (limT high) 1 ++ (if (limT high).isNone = true then [1] else []) := by
          cases limT low <;> cases limT high <;> rfl
        rcases j with _ | _ | j
        · obtain rfl : V.int 0 = z := Option.some.inj hz
          refine ⟨rfl, _, rfl, _, rfl, wl, _, 0, .str low, rfl, rfl, SqL.of (k5 _ _ hwl3), atI_nat (j := 0) rfl, rfl, _, rfl, ?_⟩
          rw [dec_str]
          cases ee : low == ("" : Str) with
          | true =>
            have en : (limT low).isNone = false := by unfold limT; rw [ee]; rfl
            refine iteF (r2 _ ?_ (Same.refl _))
            rw [hb1]
            simp [en]
          | false =>
            have ex : limT low = (numO (tl low)).map some := by unfold limT; rw [ee]; rfl
            refine iteT ⟨_, rfl, _, rfl, D, _, 0, limV (numO (tl low)), rfl, rfl, SqL.of (k5 _ _ hl3), atI_nat (j := 0) rfl, rfl, _, rfl, ?_⟩
            cases en : numO (tl low) with
            | none =>
              have en' : (limT low).isNone = true := by rw [ex, en]; rfl
              refine iteT ⟨_, rfl, r1 _ _ ?_ (Same.refl _)⟩
              rw [hb1]
              simp [en']
            | some m =>
              have en' : (limT low).isNone = false := by rw [ex, en]; rfl
              refine iteF (r2 _ ?_ (Same.refl _))
              rw [hb1]
              simp [en']
        · obtain rfl : V.int 1 = z := Option.some.inj hz
          refine ⟨rfl, _, rfl, _, rfl, wl, _, 1, .str high, rfl, rfl, SqL.of (k5 _ _ hwl3), atI_nat (j := 1) rfl, rfl, _, rfl, ?_⟩
          rw [dec_str]
          cases ee : high == ("" : Str) with
          | true =>
            have en : (limT high).isNone = false := by unfold limT; rw [ee]; rfl
            refine iteF (r2 _ ?_ (Same.refl _))
            rw [hb2]
            simp [en]
          | false =>
            have ex : limT high = (numO (tl high)).map some := by unfold limT; rw [ee]; rfl
            refine iteT ⟨_, rfl, _, rfl, D, _, 1, limV (numO (tl high)), rfl, rfl, SqL.of (k5 _ _ hl3), atI_nat (j := 1) rfl, rfl, _, rfl, ?_⟩
            cases en : numO (tl high) with
            | none =>
              have en' : (limT high).isNone = true := by rw [ex, en]; rfl
              refine iteT ⟨_, rfl, r1 _ _ ?_ (Same.refl _)⟩
              rw [hb2]
              simp [en']
            | some m =>
              have en' : (limT high).isNone = false := by rw [ex, en]; rfl
              refine iteF (r2 _ ?_ (Same.refl _))
              rw [hb2]
              simp [en']
        · cases hz
      intro H4 s4 hb
      refine ⟨Nat.zero_le _, fun q hq => ?_⟩
      have s5 := same_new (o := .lst []) hq
      have s45 := s4.trans s5
      have hl5 := s45 _ _ hl3
      have sf := (s12.trans s3).trans s45
      have hb : H4 D2 = some (.lst ((badK (limT low) (limT high) 2).map V.int)) := hb
      refine ⟨_, _, .lst (SqL.of (s5 _ _ hb)) (dpAll_ints _), .lst (SqL.of upd_same) .nil, shaped_list (n := 0) (by decide) (fun d hd => ?_), shaped_nil, _, rfl, ?_⟩
      · obtain ⟨m, _, rfl⟩ := List.mem_map.mp hd
        exact ⟨rfl, by simp [PyData.depth]⟩
      have eb : PyData.eqv (.list ((badK (limT low) (limT high) 2).map PyData.int)) (.list []) = (badK (limT low) (limT high) 2).isEmpty := by
        rw [eqv_nil, List.isEmpty_map]
      cases el : limT low with
      | none =>
        have eb' : (!PyData.eqv (.list ((badK (limT low) (limT high) 2).map PyData.int)) (.list [])) = true := by
          rw [eb, badK_none (.inl el)]
          rfl
        rw [el] at eb'
        exact iteTe eb' (k1 (by rw [eR, pairO_none (.inl el)]) _ sf)
      | some a =>
        cases eh : limT high with
        | none =>
          have eb' : (!PyData.eqv (.list ((badK (limT low) (limT high) 2).map PyData.int)) (.list [])) = true := by
            rw [eb, badK_none (.inr eh)]
            rfl
          rw [el, eh] at eb'
          exact iteTe eb' (k1 (by rw [eR, pairO_none (.inr eh)]) _ sf)
        | some b =>
          have eb' : (!PyData.eqv (.list ((badK (some a) (some b) 2).map PyData.int)) (.list [])) = false := by
            rw [← el, ← eh, eb, el, eh, badK_some]
            rfl
          refine iteFe eb' ?_
          rw [← limT_num el, ← limT_num eh] at hl5
          have eR : rdO x = if okS (a, b) = true then some (a, b) else none := by rw [eR, el, eh]; rfl
          have hL := SqL.of (K := K) hl5
          have ret : okS (a, b) = true → ∀ p, (upd H4 q (.lst [])) p = none → Q (.ref p) (upd (upd H4 q (.lst [])) p (.tup [limV a, limV b])) := fun oo p hp =>
            k2 (a, b) (by rw [eR, if_pos oo]) p _ (sf.trans (same_new hp)) (sf.free hp) upd_same
          refine ⟨_, rfl, D, _, 0, limV a, rfl, rfl, hL, atI_nat (j := 0) rfl, rfl, _, rfl, ?_⟩
          cases a with
          | none => exact iteF (iteF ⟨_, rfl, D, _, 0, _, rfl, rfl, hL, atI_nat (j := 0) rfl, _, rfl, D, _, 1, _, rfl, rfl, hL, atI_nat (j := 1) rfl, (by show 2 ≤ sizeLine; decide), fun p hp => ret rfl p hp⟩)
          | some m =>
            refine iteT ⟨_, rfl, D, _, 1, limV b, rfl, rfl, hL, atI_nat (j := 1) rfl, rfl, _, rfl, ?_⟩
            cases b with
            | none => exact iteF (iteF ⟨_, rfl, D, _, 0, _, rfl, rfl, hL, atI_nat (j := 0) rfl, _, rfl, D, _, 1, _, rfl, rfl, hL, atI_nat (j := 1) rfl, (by show 2 ≤ sizeLine; decide), fun p hp => ret rfl p hp⟩)
            | some n =>
              refine iteT ⟨_, rfl, D, _, 0, _, rfl, rfl, hL, atI_nat (j := 0) rfl, _, rfl, D, _, 1, _, rfl, rfl, hL, atI_nat (j := 1) rfl, _, _, rfl, rfl, _, rfl, ?_⟩
              cases eo : decide (m < n) with
              | true =>
                have en : decide (n ≤ m) = false := decide_eq_false (by have := of_decide_eq_true eo; omega)
                rw [en]
                exact iteF ⟨_, rfl, D, _, 0, _, rfl, rfl, hL, atI_nat (j := 0) rfl, _, rfl, D, _, 1, _, rfl, rfl, hL, atI_nat (j := 1) rfl, (by show 2 ≤ sizeLine; decide), fun p hp => ret eo p hp⟩
              | false =>
                have en : decide (n ≤ m) = true := decide_eq_true (by have := of_decide_eq_false eo; omega)
                rw [en]
                exact iteT (k1 (by rw [eR, if_neg (by show ¬ decide (m < n) = true; rw [eo]; decide)]) _ sf)
theorem ok_law_told (T : Txt K mg) : FnOk P w K mg base CX0 6 T.f_law_told T.fd_law_told ["_law_way", "_law_value"] (sp_told K) := by
  refine T.F_law_told.ok sc_law_told (fun vs H Q E h => ?_) (fun cdv A outer s H vs Q E hr h => ?_)
  · obtain ⟨n, x, o, rfl, _⟩ := h
    rfl
  · obtain ⟨n, x, o, rfl, hx, k⟩ := h
    refine ⟨_, (pss_one (ps_try_manyAs (i := 2) (n := "e") rfl rfl sc_law_told.nd rfl rfl takes0 (fun W pn xe tk _ => by exact (pss_cons (ps_if (pt_cmpR op_eq (pv 0) pe_int (nomark _)) (pss_one (ps_ret (pe_lst (pa_cons pe_str (pa_cons (pe_callS (ok_read_span T) (hr.mono (by decide)) rfl T.m_read_span T.F_read_span.kp T.b_read_span (fun σ => passAt tk σ) (pa_cons (pv 1) pa_nil)) pa_nil))))) pss_nil)
        (pss_one (ps_ret (pe_lst (pa_cons pe_str (pa_cons (pe_callS (ok_span_text T) hr rfl T.m_span_text T.F_span_text.kp T.b_span_text (fun σ => passAt tk σ) (pa_cons (pv 1) pa_nil)) pa_nil)))))))
          (HdsAs.cons ⟨rfl, by decide, Or.inl T.g_InvalidText⟩ (fun a oe cls d pn hz hf => by exact (pss_one (ps_ret (pe_lst (pa_cons pe_str (pa_cons (pe_xf T.y_InvalidText T.n_InvalidText hz hf (pv 2)) pa_nil)))))) (HdsAs.cons ⟨rfl, by decide, Or.inl T.g_InvalidSpan⟩ (fun a oe cls d pn hz hf => by exact (pss_one (ps_ret (pe_lst (pa_cons pe_str (pa_cons (pe_xf T.y_InvalidSpan T.n_InvalidSpan hz hf (pv 2)) pa_nil)))))) HdsAs.nil)))), ?_⟩
    have lk : ∀ v : V, List.lookup ("value" : Str) [(("value" : Str), v)] = some v := fun v => by simp [List.lookup]
    refine ⟨_, rfl, rfl, _, rfl, ?_⟩
    rcases k with ⟨rfl, k1, k2⟩ | ⟨h0, e, k⟩
    · refine iteTe (by decide) ⟨_, rfl, x, o, rfl, hx, fun e d H' nd hd sm => ?_, fun s' e q H' sm hq hqq => ?_⟩
      · exact ⟨true, T.e_InvalidText_InvalidText, fun _ a ha => ⟨_, rfl, rfl, rfl, d, _, x, rfl, hd, lk x, (by show 2 ≤ sizeLine; decide), fun p hp => k1 e p _ (sm.trans (same_new hp)) (sm.free hp) upd_same⟩, fun q => nomatch q⟩
      · refine ⟨(by show 2 ≤ sizeLine; decide), fun p hp => ?_⟩
        have s2 := same_new (o := .lst [.str "read", .ref q]) hp
        exact k2 s' e p q _ (sm.trans s2) (sm.free hp) hq (s2 _ _ hqq) upd_same
    · refine iteFe (by rw [dec_int]; simpa using h0) ⟨_, rfl, x, o, rfl, hx, fun e d H' nd hd sm => ?_, fun s' e2 os => ?_⟩
      · exact ⟨false, T.e_InvalidSpan_InvalidText, (fun q => nomatch q), fun _ => ⟨true, T.e_InvalidSpan_InvalidSpan, fun _ a ha => ⟨_, rfl, rfl, rfl, d, _, x, rfl, hd, lk x, (by show 2 ≤ sizeLine; decide), fun p hp => k p _ (sm.trans (same_new hp)) (sm.free hp) upd_same⟩, fun q => nomatch q⟩⟩
      · subst e2
        rw [spanO_ok, os] at e
        cases e
theorem ok_law_bent (T : Txt K mg) : FnOk P w K mg base CX0 2 T.f_law_bent T.fd_law_bent ["_law_box_here", "_law_text"] sp_bent := by
  refine T.F_law_bent.ok sc_law_bent (fun vs H Q E h => ?_) (fun cdv A outer s H vs Q E hr h => ?_)
  · obtain ⟨H0, p, n, x, m, rfl, _⟩ := h
    rfl
  · obtain ⟨H0, p, n, x, m, rfl, B, hn, hx, hm, k⟩ := h
    have hz : x.length ≤ sizeLine := Nat.le_trans hx.1 (Nat.le_trans (Nat.le_of_lt hm) (by decide))
    have hxl : x.length ≤ m := hx.1
    refine ⟨_, (pss_cons (ps_set (i := 2) sc_law_bent.nd rfl (Or.inl rfl) (pe_call (ok_law_take T) hr rfl T.m_law_take T.F_law_take.kp T.b_law_take .nil pass0 (pa_cons (pv 0) (pa_cons (pe_op op_add (pe_callB (id := "len") call_len_str (by rfl) T.z_len (by decide +kernel) (pa_cons (pv 1) pa_nil)) pe_int) pa_nil))))
        (pss_cons (ps_set (i := 3) sc_law_bent.nd rfl (Or.inl rfl) (pe_ix ix_str pe_str (pe_call (ok_law_take T) hr rfl T.m_law_take T.F_law_take.kp T.b_law_take .nil pass0 (pa_cons (pv 0) (pa_cons pe_int pa_nil))) (fun _ _ => rfl)))
        (pss_cons (ps_par (i := 4) (j := 5) (by rfl) sc_law_bent.nd rfl rfl (by decide) rfl rfl (pa_cons (pe_slice sl_str (pv 1) po_none (po_some (pv 2))) (pa_cons (pe_slice sl_str (pv 1) (po_some (pe_op op_add (pv 2) pe_int)) po_none) pa_nil)) (by rfl))
        (pss_one (ps_ret (pe_ix ix_list (pe_lst (pa_cons (pe_op op_add_str (pe_op op_add_str (pv 4) (pv 3)) (pe_slice sl_str (pv 1) (po_some (pv 2)) po_none)) (pa_cons (pe_op op_add_str (pv 4) (pv 5)) (pa_cons (pe_op op_add_str (pe_op op_add_str (pv 4) (pv 3)) (pv 5)) pa_nil)))) (pe_call (ok_law_take T) hr rfl T.m_law_take T.F_law_take.kp T.b_law_take .nil pass0 (pa_cons (pv 0) (pa_cons pe_int pa_nil))) (fun _ _ => rfl))))))), ?_⟩
    refine ⟨_, rfl, _, rfl, _, rfl, hz, _, _, rfl, rfl, _, p, _, _, rfl, B, by omega, by omega, by omega, fun z2 H2 z20 z21 B2 => ?_⟩
    refine ⟨_, rfl, _, p, _, 15, rfl, B2, by omega, by decide, by decide, fun z3 H3 z30 z31 B3 => ?_⟩
    obtain ⟨c, hc, hmem⟩ := atI_in (xs := ("0123456789.- +\n" : Str).cps.toList) z30 z31
    have hsg : sOk 1 (⟨#[c]⟩ : Str) := by
      refine ⟨Nat.le_refl _, strOk_sign ?_⟩
      have all : ∀ c ∈ ("0123456789.- +\n" : Str).cps.toList, c < 0x110000 := by decide +kernel
      exact all c hmem
    refine ⟨_, z3, c, rfl, rfl, by decide, hc, ?_⟩
    have h1 := hx.cut none (some z2)
    have h2 := hx.cut (some (z2 + 1)) none
    have h3 := hx.cut (some z2) none
    have q1 := (h1.app hsg).app h3
    have q2 := h1.app h2
    have q3 := (h1.app hsg).app h2
    have fit : ∀ {a : Str} {j : Nat}, sOk j a → j ≤ 2 * m + 1 → a.length ≤ sizeLine := fun h e => Nat.le_trans h.1 (Nat.le_trans e (Nat.le_trans (show 2 * m + 1 ≤ 801 by omega) (by decide)))
    have l1 := fit q1 (by omega)
    have l2 := fit q2 (by omega)
    have l3 := fit q3 (by omega)
    rw [Str.length_append, Str.length_append] at l1
    rw [Str.length_append] at l2
    rw [Str.length_append, Str.length_append] at l3
    refine ⟨_, rfl, _, rfl, _, rfl, _, rfl, hz, _, rfl, _, rfl, _, _, rfl, rfl, _, rfl, _, rfl, hz, ?_⟩
    refine ⟨_, _, rfl, _, rfl, _, rfl, _, _, rfl, rfl, by omega, _, rfl, _, rfl, _, rfl, _, rfl, hz, _, _, rfl, rfl, by rw [Str.length_append]; omega, ?_⟩
    refine ⟨_, rfl, _, rfl, _, _, rfl, rfl, by omega, ?_⟩
    refine ⟨_, rfl, _, rfl, _, _, rfl, rfl, by omega, _, rfl, _, _, rfl, rfl, by rw [Str.length_append]; omega, (by show 3 ≤ sizeLine; decide), fun l hl => ?_⟩
    have B4 := B3.new (o := .lst [.str (cutS x none (some z2) ++ ⟨#[c]⟩ ++ cutS x (some z2) none), .str (cutS x none (some z2) ++ cutS x (some (z2 + 1)) none), .str (cutS x none (some z2) ++ ⟨#[c]⟩ ++ cutS x (some (z2 + 1)) none)]) hl
    refine ⟨_, rfl, _, p, _, 3, rfl, B4.1, by omega, by decide, by decide, fun z5 H5 z50 z51 B5 => ?_⟩
    obtain ⟨v, hv, hmv⟩ := atI_in (xs := [V.str (cutS x none (some z2) ++ ⟨#[c]⟩ ++ cutS x (some z2) none), V.str (cutS x none (some z2) ++ cutS x (some (z2 + 1)) none), V.str (cutS x none (some z2) ++ ⟨#[c]⟩ ++ cutS x (some (z2 + 1)) none)]) z50 z51
    refine ⟨l, _, z5, v, rfl, rfl, SqL.of (B5.same _ _ upd_same), hv, ?_⟩
    simp only [List.mem_cons, List.not_mem_nil, or_false] at hmv
    rcases hmv with rfl | rfl | rfl
    · exact k _ H5 _ B4.2 B5 (q1.mono (by omega))
    · exact k _ H5 _ B4.2 B5 (q2.mono (by omega))
    · exact k _ H5 _ B4.2 B5 (q3.mono (by omega))
theorem ok_law (T : Txt K mg) : FnOk P w K mg base CX0 7 T.f_law T.fd_law ["_law_script"] (sp_law K) := by
  refine T.F_law.ok sc_law (fun vs H Q E h => ?_) (fun cdv A outer s H vs Q E hr h => ?_)
  · obtain ⟨a, ns, rfl, _⟩ := h
    rfl
  · obtain ⟨a, ns, rfl, hS, hlen, k⟩ := h
    refine ⟨_, (pss_cons (ps_for PassesOwn.never rfl (pi_range1 rfl T.z_range (pa_cons (pe_callB (id := "max") (call_max2 rfl) (by rfl) T.z_max (by decide +kernel) (pa_cons pe_int (pa_cons (pe_callB (id := "min") (call_min2 rfl) (by rfl) T.z_min (by decide +kernel) (pa_cons pe_int (pa_cons (pe_callB (id := "len") call_len_seq (by rfl) T.z_len (by decide +kernel) (pa_cons (pv 0) pa_nil)) pa_nil))) pa_nil))) pa_nil)) (pg_name (i := 1) sc_law.nd rfl (Or.inl rfl))
          (pss_cons (ps_set (i := 2) sc_law.nd rfl (Or.inl rfl) (pe_call (ok_law_box T) (hr.mono (by decide)) rfl T.m_law_box T.F_law_box.kp T.b_law_box .nil pass0 (pa_cons (pe_call (ok_law_cell T) (hr.mono (by decide)) rfl T.m_law_cell T.F_law_cell.kp T.b_law_cell .nil pass0 (pa_cons (pv 0) (pa_cons (pv 1) pa_nil))) pa_nil)))
        (pss_cons (ps_set (i := 3) sc_law.nd rfl (Or.inl rfl) (pe_call (ok_law_span T) (hr.mono (by decide)) rfl T.m_law_span T.F_law_span.kp T.b_law_span .nil pass0 (pa_cons (pv 2) pa_nil)))
        (pss_cons (ps_set (i := 4) sc_law.nd rfl (Or.inl rfl) (pe_join pe_str (pe_lc (own := [("_law_limit", 10)]) (g := gName 10) (tt := tYes) rfl sc_law.nd (pi_tup (pv 3)) (blkOk_by (own := [("_law_limit", 10)]) (N := ["_law_script", "_law_k", "_law_box_here", "_law_span_here", "_law_text", "_law_turn", "_law_bent_here", "_law_due", "_law_odd", "_law_bad", "_law_limit"]) (sc := defScope s_law) (by decide +kernel)) (fun _ _ _ _ _ => (pg_name (i := 10) sc_law.nd rfl (Or.inl rfl))) (fun _ _ _ _ _ => pts_nil) (fun _ _ _ _ _ => (pe_ifExp (pt_cmpR op_isN (pv 10) pe_non (nomark _)) pe_str (pe_callTy (T := "str") call_str_int (by rfl) T.z_str (by decide +kernel) (pa_cons (pv 10) pa_nil)))))))
        (pss_cons (ps_if (PW.pt (pw_or (pt_cmpR op_ne (pe_call (ok_span_text T) (hr.mono (by decide)) rfl T.m_span_text T.F_span_text.kp T.b_span_text .nil passL (pa_cons (pv 3) pa_nil)) (pv 4) (nomark _)) (pw_or1 (pt_cmpR (op_neD hr.units) (pe_call (ok_read_span T) (hr.mono (by decide)) rfl T.m_read_span T.F_read_span.kp T.b_read_span .nil passL (pa_cons (pv 4) pa_nil)) (pv 3) (nomark _))))) (pss_one (ps_ret pe_bl)) pss_nil)
        (pss_cons (ps_for PassesOwn.never rfl (pi_range1 rfl T.z_range (pa_cons pe_int pa_nil)) (pg_name (i := 5) sc_law.nd rfl (Or.inl rfl))
          (pss_cons (ps_set (i := 6) sc_law.nd rfl (Or.inl rfl) (pe_call (ok_law_bent T) (hr.mono (by decide)) rfl T.m_law_bent T.F_law_bent.kp T.b_law_bent .nil pass0 (pa_cons (pv 2) (pa_cons (pe_ifExp (pt_cmpR op_lt (pv 5) pe_int (nomark _)) (pv 4) (pe_call (ok_law_bent T) (hr.mono (by decide)) rfl T.m_law_bent T.F_law_bent.kp T.b_law_bent .nil pass0 (pa_cons (pv 2) (pa_cons (pv 4) pa_nil)))) pa_nil))))
        (pss_cons (ps_set (i := 7) sc_law.nd rfl (Or.inl rfl) (pe_call (ok_law_read T) (hr.mono (by decide)) rfl T.m_law_read T.F_law_read.kp T.b_law_read .nil pass0 (pa_cons (pv 6) pa_nil)))
        (pss_one (ps_if (pt_cmpR (op_neU hr.units) (pe_call (ok_law_told T) hr rfl T.m_law_told T.F_law_told.kp T.b_law_told .nil pass0 (pa_cons pe_int (pa_cons (pv 6) pa_nil))) (pe_ifExp (pt_cmpR op_isN (pv 7) pe_non (nomark _)) (pe_lst (pa_cons pe_str (pa_cons (pv 6) pa_nil))) (pe_lst (pa_cons pe_str (pa_cons (pv 7) pa_nil)))) (nomark _)) (pss_one (ps_ret pe_bl)) pss_nil)))))
        (pss_cons (ps_set (i := 8) sc_law.nd rfl (Or.inl rfl) (pe_lst (pa_cons pe_non (pa_cons pe_int (pa_cons pe_bl (pa_cons (pv 3) (pa_cons (pe_lst (pa_cons (pv 4) pa_nil)) (pa_cons pe_str (pa_cons pe_str (pa_cons pe_str (pa_cons (pe_op op_add_str (pe_op op_mul_str pe_str pe_int) pe_str) (pa_cons pe_str (pa_cons (pe_op op_add_str (pe_op op_mul_str pe_str pe_int) pe_str) (pa_cons pe_dnewK pa_nil))))))))))))))
        (pss_cons (ps_set (i := 8) sc_law.nd rfl (Or.inl rfl) (pe_ix ix_list (pv 8) (pe_call (ok_law_take T) (hr.mono (by decide)) rfl T.m_law_take T.F_law_take.kp T.b_law_take .nil pass0 (pa_cons (pv 2) (pa_cons pe_int pa_nil))) (fun _ _ => rfl)))
        (pss_cons (ps_set (i := 7) sc_law.nd rfl (Or.inl rfl) (pe_ifExp (pt_val (pe_callB (id := "isinstance") call_isi (by rfl) T.z_isinstance (by decide +kernel) (pa_cons (pv 8) (pa_cons (pe_bltn (v := .ty "str") (u := .type "str") (by rfl) T.z_str (by decide +kernel) rfl) pa_nil)))) (pe_call (ok_law_read T) (hr.mono (by decide)) rfl T.m_law_read T.F_law_read.kp T.b_law_read .nil pass0 (pa_cons (pv 8) pa_nil)) pe_non))
        (pss_cons (ps_if (pt_cmpR (op_neU hr.units) (pe_call (ok_law_told T) hr rfl T.m_law_told T.F_law_told.kp T.b_law_told .nil pass0 (pa_cons pe_int (pa_cons (pv 8) pa_nil))) (pe_ifExp (pt_cmpR op_isN (pv 7) pe_non (nomark _)) (pe_lst (pa_cons pe_str (pa_cons (pv 8) pa_nil))) (pe_lst (pa_cons pe_str (pa_cons (pv 7) pa_nil)))) (nomark _)) (pss_one (ps_ret pe_bl)) pss_nil)
        (pss_cons (ps_set (i := 9) sc_law.nd rfl (Or.inl rfl) (pe_ix ix_list (pe_lst (pa_cons pe_non (pa_cons pe_int (pa_cons (pv 4) (pa_cons (pe_callTy (T := "list") call_list_of (by rfl) T.z_list (by decide +kernel) (pa_cons (pv 3) pa_nil)) (pa_cons (pe_tup (pa_cons pe_int (pa_cons pe_int pa_nil))) (pa_cons (pe_tup (pa_cons pe_int (pa_cons pe_int pa_nil))) (pa_cons (pe_tup (pa_cons pe_int (pa_cons pe_int (pa_cons pe_int pa_nil)))) (pa_cons (pe_tup (pa_cons pe_bl (pa_cons pe_int pa_nil))) pa_nil))))))))) (pe_call (ok_law_take T) (hr.mono (by decide)) rfl T.m_law_take T.F_law_take.kp T.b_law_take .nil pass0 (pa_cons (pv 2) (pa_cons pe_int pa_nil))) (fun _ _ => rfl)))
        (pss_one (ps_if (pt_cmpR (op_neS hr.units) (pe_call (ok_law_told T) hr rfl T.m_law_told T.F_law_told.kp T.b_law_told .nil pass0 (pa_cons pe_int (pa_cons (pv 9) pa_nil))) (pe_lst (pa_cons pe_str (pa_cons (pv 9) pa_nil))) (nomark _)) (pss_one (ps_ret pe_bl)) pss_nil)))))))))))))
        (pss_one (ps_ret pe_bl))), ?_⟩
    refine ⟨_, rfl, a, _, rfl, .inl hS, _, _, rfl, _, _, rfl, _, rfl, ?_, ?_, for_range (fun i σ H' => ∃ v1 v2 v3 v4 v5 v6 v7 v8 v9 v10, σ = [some (.ref a), v1, v2, v3, v4, v5, v6, v7, v8, v9, v10] ∧ Same H H') ⟨none, none, none, none, none, none, none, none, none, none, rfl, Same.refl H⟩ ?_ ?_⟩
    · repeat' split
      all_goals omega
    · repeat' split
      all_goals omega
    · rintro i σ H1 hi ⟨v1, v2, v3, v4, v5, v6, v7, v8, v9, v10, rfl, s1⟩
      refine ⟨_, rfl, _, rfl, a, ns, _, rfl, s1.seq hS, (by omega), fun z => ⟨z, rfl, fun p o hp bx => ?_⟩⟩
      have B : BoxIn H1 (upd H1 p o) p 0 := ⟨same_new hp, hp, bx⟩
      refine ⟨_, rfl, H1, p, 0, rfl, B, by decide, fun H2 H3 v s2 B3 hv => ?_⟩
      obtain ⟨x, sx, rfl, hx, ox, m1, m2⟩ := hv
      have tok : sOk 900 (spS sx) := (spS_ok m1 m2).mono (by decide)
      have hx3 := B3.same _ _ hx
      refine ⟨⟨_, rfl⟩, _, rfl, x, rfl, ⟨_, SqT.of hx3⟩, fun D hD => ?_⟩
      refine lc_acc walk_tup hD (fun H' k => SqT.of (k _ _ hx3)) (fun i => (([sx.1, sx.2].take i).map fun o => V.str (limS o))) rfl (fun i _ => ?_) ?_ ?_
      · rw [List.length_map, List.length_take]
        exact Nat.lt_of_le_of_lt (Nat.min_le_right _ _) (by show 2 < sizeLine; decide)
      · rintro j z H4 hj hz' k4 R S r1 r2
        have hz2 : ([sx.1, sx.2].map limV)[j]? = some z := hz'
        rw [List.getElem?_map] at hz2
        obtain ⟨u, hu, rfl⟩ := Option.map_eq_some_iff.mp hz2
        have hu2 : smO u := by
          have := List.mem_of_getElem? hu
          simp only [List.mem_cons, List.not_mem_nil, or_false] at this
          rcases this with rfl | rfl
          · exact m1
          · exact m2
        refine ⟨rfl, tyes ⟨_, rfl, rfl, _, rfl, ?_⟩⟩
        have ea : (([sx.1, sx.2].take (j + 1)).map fun o => V.str (limS o)) = (([sx.1, sx.2].take j).map fun o => V.str (limS o)) ++ [V.str (limS u)] := by
          rw [List.take_add_one, hu]
          simp
        cases u with
        | none => exact iteT (r1 _ _ ea (Same.refl _))
        | some i => exact iteF ⟨_, rfl, i, rfl, log_lt hu2, r1 _ _ ea (Same.refl _)⟩
      intro H4 s4 hl
      refine ⟨_, D, [limS sx.1, limS sx.2], rfl, rfl, .inl (SqL.of hl), ?_, ?_⟩
      · have h1 := (limS_ok m1).1
        have h2 := (limS_ok m2).1
        have h3 : (".." : Str).length = 2 := by decide +kernel
        show (limS sx.1).length + ((limS sx.2).length + 0) + 2 * (".." : Str).length ≤ 16777216
        omega
      rw [spS_join]
      have B4 := B3.keep s4
      refine ⟨_, rfl, .ref x, some (spD sx), rfl, vd_sp (SqT.of (B4.same _ _ hx)), (fun e => by rw [spanO_ok, ox] at e; cases e), fun s' e os => ?_⟩
      obtain rfl := spD_inj (Option.some.inj e)
      refine ⟨m1, m2, fun H5 s5 => ⟨_, rfl, rfl, _, rfl, iteFe (by simp) ?_⟩⟩
      refine ⟨_, rfl, _, _, rfl, vd_text tok, (fun e => by rw [show rdT (some (.str (spS sx))) = rdO (spS sx) from rfl, spS_back ox m1 m2] at e; cases e), fun s' e q H6 s6 hq hqq => ?_⟩
      obtain rfl : sx = s' := by
        rw [show rdT (some (.str (spS sx))) = rdO (spS sx) from rfl, spS_back ox m1 m2] at e
        exact Option.some.inj e
      have B6 := (B4.keep s5).keep s6
      refine ⟨_, rfl, spD sx, spD sx, .tup (SqT.of hqq) (dpAll_spV sx), .tup (SqT.of (B6.same _ _ hx)) (dpAll_spV sx), shaped_sp sx, shaped_sp sx, _, rfl, iteFe (by rw [eqv_sp]; rfl) ?_⟩
      clear hqq hq hl hD hx3
      refine ⟨4, rfl, by decide, by decide, for_range (fun j σ H' => ∃ v5 v6 v7 : Option V, σ = [some (.ref a), some (.int (0 + (i : Int))), some (.ref p), some (.ref x), some (.str (spS sx)), v5, v6, v7, v8, v9, v10] ∧ ∃ n, n ≤ 4 + 6 * j ∧ BoxIn H2 H' p n) ⟨v5, v6, v7, rfl, _, Nat.le_refl _, B6⟩ ?_ ?_⟩
      · rintro j σ H6' hj ⟨v5, v6, v7, rfl, n, hn, Bn⟩
        have hj4 : j < 4 := hj
        refine ⟨_, rfl, _, rfl, _, _, rfl, rfl, _, rfl, ?_⟩
        refine ite2 (fun c => ?_) (fun c => ?_)
        · refine ⟨_, rfl, H2, p, n, spS sx, 64, rfl, Bn, by omega, spS_ok m1 m2, by decide, fun G H7 y sG B7 hy' => ?_⟩
          have hy : sOk 259 y := hy'.mono (by decide)
          have hn7 : n + 3 ≤ 4 + 6 * (j + 1) := by omega
          refine ⟨_, rfl, y, rfl, Nat.le_trans hy.1 (by decide), hy.2, fun e H8 s8 => ?_, fun s' e q H8 s8 hq hqq => ?_⟩
          · have hv : VD K H8 (.str y) (some (.str y)) := vd_text (hy.mono (by decide))
            refine ⟨_, rfl, 0, .str y, some (.str y), rfl, hv, .inl ⟨rfl, fun _ f Ha sa hf hfl => ?_, fun s2 e2 => by rw [show rdT (some (.str y)) = rdO y from rfl, e] at e2; cases e2⟩⟩
            refine ⟨_, rfl, rfl, _, rfl, iteT ⟨_, rfl, (by show 2 ≤ sizeLine; decide), fun g hg => ?_⟩⟩
            have sg := same_new (o := .lst [.str "text", .str y]) hg
            refine .inl ⟨f, g, [.str "text", .str y], rfl, rfl, SqL.of (sg _ _ hfl), SqL.of upd_same, rfl, _, rfl, iteF ?_⟩
            exact ⟨_, _, _, rfl, _, hn7, (B7.low sG).keep (s8.trans (sa.trans sg))⟩
          · have hv : VD K H8 (.str y) (some (.str y)) := vd_text (hy.mono (by decide))
            refine ⟨_, rfl, 0, .str y, some (.str y), rfl, hv, .inl ⟨rfl, (fun e2 => by rw [show rdT (some (.str y)) = rdO y from rfl, e] at e2; cases e2), fun s2 e2 f q2 Ha sa hf hq2 hq2l hfl => ?_⟩⟩
            obtain rfl : s' = s2 := Option.some.inj (e.symm.trans e2)
            refine ⟨_, rfl, rfl, _, rfl, iteF ⟨_, rfl, (by show 2 ≤ sizeLine; decide), fun g hg => ?_⟩⟩
            have sg := same_new (o := .lst [.str "read", .ref q]) hg
            refine .inr ⟨_, _, dp_read (SqL.of (sg _ _ hfl)) (SqT.of (sg _ _ hq2l)), dp_read (SqL.of upd_same) (SqT.of (sg _ _ (sa _ _ hqq))), shaped_read s', shaped_read s', _, rfl, iteFe (by rw [eqv_read]; rfl) ?_⟩
            exact ⟨_, _, _, rfl, _, hn7, (B7.low sG).keep (s8.trans (sa.trans sg))⟩
        · refine ⟨_, rfl, _, rfl, H2, p, n, spS sx, 64, rfl, Bn, by omega, spS_ok m1 m2, by decide, fun G0 H70 y0 sG0 B70 hy0 => ?_⟩
          refine ⟨G0, p, n + 3, y0, 129, rfl, B70, by omega, hy0, by decide, fun G H7 y sG' B7 hy' => ?_⟩
          have sG : Same H2 G := sG0.trans sG'
          have hy : sOk 259 y := hy'.mono (by decide)
          have hn7 : n + 3 + 3 ≤ 4 + 6 * (j + 1) := by omega
          refine ⟨_, rfl, y, rfl, Nat.le_trans hy.1 (by decide), hy.2, fun e H8 s8 => ?_, fun s' e q H8 s8 hq hqq => ?_⟩
          · have hv : VD K H8 (.str y) (some (.str y)) := vd_text (hy.mono (by decide))
            refine ⟨_, rfl, 0, .str y, some (.str y), rfl, hv, .inl ⟨rfl, fun _ f Ha sa hf hfl => ?_, fun s2 e2 => by rw [show rdT (some (.str y)) = rdO y from rfl, e] at e2; cases e2⟩⟩
            refine ⟨_, rfl, rfl, _, rfl, iteT ⟨_, rfl, (by show 2 ≤ sizeLine; decide), fun g hg => ?_⟩⟩
            have sg := same_new (o := .lst [.str "text", .str y]) hg
            refine .inl ⟨f, g, [.str "text", .str y], rfl, rfl, SqL.of (sg _ _ hfl), SqL.of upd_same, rfl, _, rfl, iteF ?_⟩
            exact ⟨_, _, _, rfl, _, hn7, (B7.low sG).keep (s8.trans (sa.trans sg))⟩
          · have hv : VD K H8 (.str y) (some (.str y)) := vd_text (hy.mono (by decide))
            refine ⟨_, rfl, 0, .str y, some (.str y), rfl, hv, .inl ⟨rfl, (fun e2 => by rw [show rdT (some (.str y)) = rdO y from rfl, e] at e2; cases e2), fun s2 e2 f q2 Ha sa hf hq2 hq2l hfl => ?_⟩⟩
            obtain rfl : s' = s2 := Option.some.inj (e.symm.trans e2)
            refine ⟨_, rfl, rfl, _, rfl, iteF ⟨_, rfl, (by show 2 ≤ sizeLine; decide), fun g hg => ?_⟩⟩
            have sg := same_new (o := .lst [.str "read", .ref q]) hg
            refine .inr ⟨_, _, dp_read (SqL.of (sg _ _ hfl)) (SqT.of (sg _ _ hq2l)), dp_read (SqL.of upd_same) (SqT.of (sg _ _ (sa _ _ hqq))), shaped_read s', shaped_read s', _, rfl, iteFe (by rw [eqv_read]; rfl) ?_⟩
            exact ⟨_, _, _, rfl, _, hn7, (B7.low sG).keep (s8.trans (sa.trans sg))⟩
      · rintro σ H7 ⟨v5, v6, v7, rfl, n, hn, B7⟩
        have hn4 : n ≤ 28 := hn
        have eo : TL.tl (Txt.mul ("1" : Str) 31 ++ ("..": Str)) = List.replicate 31 49 ++ [46, 46] := by decide +kernel
        have ez : TL.tl (Txt.mul ("1" : Str) 29 ++ ("..": Str)) = List.replicate 29 49 ++ [46, 46] := by decide +kernel
        refine ⟨_, rfl, _, rfl, (by show 1 ≤ sizeLine; decide), fun t1 ht1 => ?_⟩
        have b1 := B7.new (o := .lst [.str (spS sx)]) ht1
        refine ⟨_, _, rfl, rfl, (by refine ⟨by decide, ?_, ?_⟩ <;> decide +kernel), _, _, rfl, rfl, (by decide +kernel), _, _, rfl, rfl, (by refine ⟨by decide, ?_, ?_⟩ <;> decide +kernel), _, _, rfl, rfl, (by decide +kernel), fun u hu => ?_⟩
        have b2 := b1.1.new (o := .dK []) hu
        refine ⟨(by show 12 ≤ sizeLine; decide), fun l hl => ?_⟩
        have b3 := b2.1.new (o := .lst [V.non, .int 5, .bl true, .ref x, .ref t1, .str "", .str ".", .str "...", .str (Txt.mul "1" 31 ++ ".."), .str "0..-0", .str (Txt.mul "1" 29 ++ ".."), .ref u]) hl
        refine ⟨_, rfl, _, rfl, _, p, _, 12, rfl, b3.1, by omega, by decide, by decide, fun zo H8 zo0 zo1 B8 => ?_⟩
        obtain ⟨odd, hov, hom⟩ := atI_in (xs := [V.non, .int 5, .bl true, .ref x, .ref t1, .str "", .str ".", .str "...", .str (Txt.mul "1" 31 ++ ".."), .str "0..-0", .str (Txt.mul "1" 29 ++ ".."), .ref u]) zo0 zo1
        refine ⟨l, _, zo, odd, rfl, rfl, SqL.of (B8.same _ _ upd_same), hov, ?_⟩
        have hodd : ∃ G, Same H2 G ∧ BoxIn G H8 p 29 ∧ ∃ oo, VD K G odd oo ∧ sureV odd = true := by
          have m3 := b3.2
          have m2 := b2.2.trans m3
          refine ⟨_, b1.2.trans m2, B8.mono (by omega), ?_⟩
          simp only [List.mem_cons, List.not_mem_nil, or_false] at hom
          rcases hom with rfl | rfl | rfl | rfl | rfl | rfl | rfl | rfl | rfl | rfl | rfl | rfl
          · exact ⟨_, .dat .non (by decide +kernel) (fun _ e => nomatch e), rfl⟩
          · exact ⟨_, .dat (.int 5) (by decide +kernel) (fun _ e => nomatch e), rfl⟩
          · exact ⟨_, .dat (.bl true) (by decide +kernel) (fun _ e => nomatch e), rfl⟩
          · exact ⟨_, vd_sp (SqT.of ((b1.2.trans m2) _ _ hx)), rfl⟩
          · refine ⟨some (.list [.str (spS sx)]), .dat (.lst (SqL.of (m2 _ _ upd_same)) (.cons (.str _) .nil)) (shaped_list (n := 5) (by decide) fun d hd => ?_) (fun _ e => nomatch e), rfl⟩
            cases List.mem_singleton.mp hd
            exact ⟨tok.2, by simp [PyData.depth]⟩
          · exact ⟨_, vd_text (show sOk 900 ("" : Str) from ⟨by decide +kernel, by decide +kernel⟩), rfl⟩
          · exact ⟨_, vd_text (show sOk 900 ("." : Str) from ⟨by decide +kernel, by decide +kernel⟩), rfl⟩
          · exact ⟨_, vd_text (show sOk 900 ("..." : Str) from ⟨by decide +kernel, by decide +kernel⟩), rfl⟩
          · exact ⟨_, vd_text (show sOk 900 (Txt.mul "1" 31 ++ ".." : Str) from ⟨by decide +kernel, by decide +kernel⟩), rfl⟩
          · exact ⟨_, vd_text (show sOk 900 ("0..-0" : Str) from ⟨by decide +kernel, by decide +kernel⟩), rfl⟩
          · exact ⟨_, vd_text (show sOk 900 (Txt.mul "1" 29 ++ ".." : Str) from ⟨by decide +kernel, by decide +kernel⟩), rfl⟩
          · exact ⟨none, .dic (m3 _ _ upd_same), rfl⟩
        obtain ⟨G9, sG9, C8, oo, vo, so⟩ := hodd
        clear b1 b2 b3 hov hom eo ez B8
        have sH : Same H H2 := s1.trans s2
        refine ⟨_, rfl, _, _, _, _, _, rfl, .ty _, (vo.mono C8.same).ty, kit_o oo (.inr (.inr (.inl rfl))), _, rfl, ?_⟩
        cases e : isT "str" oo with
        | false =>
          have hrd : rdT oo = none := by
            rcases oo with _ | d
            · rfl
            · cases d with
              | str s => cases e
              | _ => rfl
          refine iteF ?_
          refine ⟨_, rfl, 0, odd, oo, rfl, vo.mono C8.same, .inl ⟨rfl, fun _ f Ha sa hf hfl => ?_, fun s2 e2 => by rw [hrd] at e2; cases e2⟩⟩
          refine ⟨_, rfl, rfl, _, rfl, iteT ⟨_, rfl, (by show 2 ≤ sizeLine; decide), fun g hg => ?_⟩⟩
          have sg := same_new (o := .lst [.str "text", odd]) hg
          refine .inl ⟨f, g, [.str "text", odd], rfl, rfl, SqL.of (sg _ _ hfl), SqL.of upd_same, sure2 so, _, rfl, iteF ?_⟩
          have C9 := C8.keep (sa.trans sg)
          have hx9 := C9.same _ _ (sG9 _ _ hx)
          refine ⟨_, rfl, _, rfl, x, _, rfl, .inr (SqT.of hx9), fun w1 hw1 => ?_⟩
          have d1 := C9.new (o := .lst (spV sx)) hw1
          refine ⟨(by show 2 ≤ sizeLine; decide), fun w2 hw2 => ?_⟩
          have d2 := d1.1.new (o := .tup [.int 1, .int 1]) hw2
          refine ⟨(by show 2 ≤ sizeLine; decide), fun w3 hw3 => ?_⟩
          have d3 := d2.1.new (o := .tup [.int 2, .int 1]) hw3
          refine ⟨(by show 3 ≤ sizeLine; decide), fun w4 hw4 => ?_⟩
          have d4 := d3.1.new (o := .tup [.int 1, .int 2, .int 3]) hw4
          refine ⟨(by show 2 ≤ sizeLine; decide), fun w5 hw5 => ?_⟩
          have d5 := d4.1.new (o := .tup [.bl true, .int 2]) hw5
          refine ⟨(by show 8 ≤ sizeLine; decide), fun w6 hw6 => ?_⟩
          have d6 := d5.1.new (o := .lst [.non, .int 5, .str (spS sx), .ref w1, .ref w2, .ref w3, .ref w4, .ref w5]) hw6
          refine ⟨_, rfl, _, p, _, 8, rfl, d6.1, by omega, by decide, by decide, fun zb Hb zb0 zb1 Bb => ?_⟩
          obtain ⟨bad, hbv, hbm⟩ := atI_in (xs := [V.non, .int 5, .str (spS sx), .ref w1, .ref w2, .ref w3, .ref w4, .ref w5]) zb0 zb1
          refine ⟨w6, _, zb, bad, rfl, rfl, SqL.of (Bb.same _ _ upd_same), hbv, ?_⟩
          have hbad : ∃ G, Same G9 G ∧ BoxIn G Hb p 40 ∧ ∃ ob, VD K G bad ob ∧ spanO ob = false ∧ sureV bad = true := by
            have m6 := d6.2
            have m5 := d5.2.trans m6
            have m4 := d4.2.trans m5
            have m3 := d3.2.trans m4
            have m2 := d2.2.trans m3
            refine ⟨_, d1.2.trans m2, Bb.mono (by omega), ?_⟩
            simp only [List.mem_cons, List.not_mem_nil, or_false] at hbm
            rcases hbm with rfl | rfl | rfl | rfl | rfl | rfl | rfl | rfl
            · exact ⟨_, .dat .non (by decide +kernel) (fun _ e => nomatch e), rfl, rfl⟩
            · exact ⟨_, .dat (.int 5) (by decide +kernel) (fun _ e => nomatch e), rfl, rfl⟩
            · exact ⟨_, vd_text tok, rfl, rfl⟩
            · exact ⟨some (.list [limD sx.1, limD sx.2]), .dat (.lst (SqL.of (m2 _ _ upd_same)) (dpAll_spV sx)) (shaped_two sx) (fun _ e => nomatch e), rfl, rfl⟩
            · exact ⟨some (.tuple [.int 1, .int 1]), .dat (.tup (SqT.of (m3 _ _ upd_same)) (.cons (.int 1) (.cons (.int 1) .nil))) (by decide +kernel) (fun _ e => nomatch e), by decide +kernel, rfl⟩
            · exact ⟨some (.tuple [.int 2, .int 1]), .dat (.tup (SqT.of (m4 _ _ upd_same)) (.cons (.int 2) (.cons (.int 1) .nil))) (by decide +kernel) (fun _ e => nomatch e), by decide +kernel, rfl⟩
            · exact ⟨some (.tuple [.int 1, .int 2, .int 3]), .dat (.tup (SqT.of (m5 _ _ upd_same)) (.cons (.int 1) (.cons (.int 2) (.cons (.int 3) .nil)))) (by decide +kernel) (fun _ e => nomatch e), by decide +kernel, rfl⟩
            · exact ⟨some (.tuple [.bool true, .int 2]), .dat (.tup (SqT.of (m6 _ _ upd_same)) (.cons (.bl true) (.cons (.int 2) .nil))) (by decide +kernel) (fun _ e => nomatch e), by decide +kernel, rfl⟩
          obtain ⟨Gb, sGb, Cb, ob, vb, nb, sb⟩ := hbad
          refine ⟨_, rfl, 1, bad, ob, rfl, vb.mono Cb.same, .inr ⟨by decide, nb, fun f Ha sa hf hfl => ?_⟩⟩
          refine ⟨_, rfl, (by show 2 ≤ sizeLine; decide), fun g hg => ?_⟩
          have sg := same_new (o := .lst [.str "span", bad]) hg
          refine ⟨f, g, [.str "span", bad], rfl, rfl, SqL.of (sg _ _ hfl), SqL.of upd_same, sure2 sb, _, rfl, iteF ?_⟩
          exact ⟨_, _, _, _, _, _, _, _, _, _, rfl, sH.trans (sG9.trans (sGb.trans (Cb.same.trans (sa.trans sg))))⟩
        | true =>
          obtain ⟨y, rfl, rfl, hy, hyo⟩ := vo.str_of e
          refine iteT ⟨_, rfl, y, rfl, hy, hyo, fun hrd0 H9 s9 => ?_, fun s' hrd q H9 s9 hq hqq => ?_⟩
          · have hrd : rdT (some (.str y)) = none := hrd0
            refine ⟨_, rfl, 0, .str y, some (.str y), rfl, (vo.mono C8.same).mono s9, .inl ⟨rfl, fun _ f Ha sa hf hfl => ?_, fun s2 e2 => by rw [hrd] at e2; cases e2⟩⟩
            refine ⟨_, rfl, rfl, _, rfl, iteT ⟨_, rfl, (by show 2 ≤ sizeLine; decide), fun g hg => ?_⟩⟩
            have sg := same_new (o := .lst [.str "text", .str y]) hg
            refine .inl ⟨f, g, [.str "text", .str y], rfl, rfl, SqL.of (sg _ _ hfl), SqL.of upd_same, sure2 so, _, rfl, iteF ?_⟩
            have C9 := C8.keep (s9.trans (sa.trans sg))
            have hx9 := C9.same _ _ (sG9 _ _ hx)
            refine ⟨_, rfl, _, rfl, x, _, rfl, .inr (SqT.of hx9), fun w1 hw1 => ?_⟩
            have d1 := C9.new (o := .lst (spV sx)) hw1
            refine ⟨(by show 2 ≤ sizeLine; decide), fun w2 hw2 => ?_⟩
            have d2 := d1.1.new (o := .tup [.int 1, .int 1]) hw2
            refine ⟨(by show 2 ≤ sizeLine; decide), fun w3 hw3 => ?_⟩
            have d3 := d2.1.new (o := .tup [.int 2, .int 1]) hw3
            refine ⟨(by show 3 ≤ sizeLine; decide), fun w4 hw4 => ?_⟩
            have d4 := d3.1.new (o := .tup [.int 1, .int 2, .int 3]) hw4
            refine ⟨(by show 2 ≤ sizeLine; decide), fun w5 hw5 => ?_⟩
            have d5 := d4.1.new (o := .tup [.bl true, .int 2]) hw5
            refine ⟨(by show 8 ≤ sizeLine; decide), fun w6 hw6 => ?_⟩
            have d6 := d5.1.new (o := .lst [.non, .int 5, .str (spS sx), .ref w1, .ref w2, .ref w3, .ref w4, .ref w5]) hw6
            refine ⟨_, rfl, _, p, _, 8, rfl, d6.1, by omega, by decide, by decide, fun zb Hb zb0 zb1 Bb => ?_⟩
            obtain ⟨bad, hbv, hbm⟩ := atI_in (xs := [V.non, .int 5, .str (spS sx), .ref w1, .ref w2, .ref w3, .ref w4, .ref w5]) zb0 zb1
            refine ⟨w6, _, zb, bad, rfl, rfl, SqL.of (Bb.same _ _ upd_same), hbv, ?_⟩
            have hbad : ∃ G, Same G9 G ∧ BoxIn G Hb p 40 ∧ ∃ ob, VD K G bad ob ∧ spanO ob = false ∧ sureV bad = true := by
              have m6 := d6.2
              have m5 := d5.2.trans m6
              have m4 := d4.2.trans m5
              have m3 := d3.2.trans m4
              have m2 := d2.2.trans m3
              refine ⟨_, d1.2.trans m2, Bb.mono (by omega), ?_⟩
              simp only [List.mem_cons, List.not_mem_nil, or_false] at hbm
              rcases hbm with rfl | rfl | rfl | rfl | rfl | rfl | rfl | rfl
              · exact ⟨_, .dat .non (by decide +kernel) (fun _ e => nomatch e), rfl, rfl⟩
              · exact ⟨_, .dat (.int 5) (by decide +kernel) (fun _ e => nomatch e), rfl, rfl⟩
              · exact ⟨_, vd_text tok, rfl, rfl⟩
              · exact ⟨some (.list [limD sx.1, limD sx.2]), .dat (.lst (SqL.of (m2 _ _ upd_same)) (dpAll_spV sx)) (shaped_two sx) (fun _ e => nomatch e), rfl, rfl⟩
              · exact ⟨some (.tuple [.int 1, .int 1]), .dat (.tup (SqT.of (m3 _ _ upd_same)) (.cons (.int 1) (.cons (.int 1) .nil))) (by decide +kernel) (fun _ e => nomatch e), by decide +kernel, rfl⟩
              · exact ⟨some (.tuple [.int 2, .int 1]), .dat (.tup (SqT.of (m4 _ _ upd_same)) (.cons (.int 2) (.cons (.int 1) .nil))) (by decide +kernel) (fun _ e => nomatch e), by decide +kernel, rfl⟩
              · exact ⟨some (.tuple [.int 1, .int 2, .int 3]), .dat (.tup (SqT.of (m5 _ _ upd_same)) (.cons (.int 1) (.cons (.int 2) (.cons (.int 3) .nil)))) (by decide +kernel) (fun _ e => nomatch e), by decide +kernel, rfl⟩
              · exact ⟨some (.tuple [.bool true, .int 2]), .dat (.tup (SqT.of (m6 _ _ upd_same)) (.cons (.bl true) (.cons (.int 2) .nil))) (by decide +kernel) (fun _ e => nomatch e), by decide +kernel, rfl⟩
            obtain ⟨Gb, sGb, Cb, ob, vb, nb, sb⟩ := hbad
            refine ⟨_, rfl, 1, bad, ob, rfl, vb.mono Cb.same, .inr ⟨by decide, nb, fun f Ha sa hf hfl => ?_⟩⟩
            refine ⟨_, rfl, (by show 2 ≤ sizeLine; decide), fun g hg => ?_⟩
            have sg := same_new (o := .lst [.str "span", bad]) hg
            refine ⟨f, g, [.str "span", bad], rfl, rfl, SqL.of (sg _ _ hfl), SqL.of upd_same, sure2 sb, _, rfl, iteF ?_⟩
            exact ⟨_, _, _, _, _, _, _, _, _, _, rfl, sH.trans (sG9.trans (sGb.trans (Cb.same.trans (sa.trans sg))))⟩
          · refine ⟨_, rfl, 0, .str y, some (.str y), rfl, (vo.mono C8.same).mono s9, .inl ⟨rfl, (fun e2 => by rw [show rdT (some (.str y)) = rdO y from rfl, hrd] at e2; cases e2), fun s2 e2 f q2 Ha sa hf hq2 hq2l hfl => ?_⟩⟩
            obtain rfl : s' = s2 := Option.some.inj (hrd.symm.trans e2)
            refine ⟨_, rfl, rfl, _, rfl, iteF ⟨_, rfl, (by show 2 ≤ sizeLine; decide), fun g hg => ?_⟩⟩
            have sg := same_new (o := .lst [.str "read", .ref q]) hg
            refine .inr ⟨_, _, dp_read (SqL.of (sg _ _ hfl)) (SqT.of (sg _ _ hq2l)), dp_read (SqL.of upd_same) (SqT.of (sg _ _ (sa _ _ hqq))), shaped_read s', shaped_read s', _, rfl, iteFe (by rw [eqv_read]; rfl) ?_⟩
            have C9 := C8.keep (s9.trans (sa.trans sg))
            have hx9 := C9.same _ _ (sG9 _ _ hx)
            refine ⟨_, rfl, _, rfl, x, _, rfl, .inr (SqT.of hx9), fun w1 hw1 => ?_⟩
            have d1 := C9.new (o := .lst (spV sx)) hw1
            refine ⟨(by show 2 ≤ sizeLine; decide), fun w2 hw2 => ?_⟩
            have d2 := d1.1.new (o := .tup [.int 1, .int 1]) hw2
            refine ⟨(by show 2 ≤ sizeLine; decide), fun w3 hw3 => ?_⟩
            have d3 := d2.1.new (o := .tup [.int 2, .int 1]) hw3
            refine ⟨(by show 3 ≤ sizeLine; decide), fun w4 hw4 => ?_⟩
            have d4 := d3.1.new (o := .tup [.int 1, .int 2, .int 3]) hw4
            refine ⟨(by show 2 ≤ sizeLine; decide), fun w5 hw5 => ?_⟩
            have d5 := d4.1.new (o := .tup [.bl true, .int 2]) hw5
            refine ⟨(by show 8 ≤ sizeLine; decide), fun w6 hw6 => ?_⟩
            have d6 := d5.1.new (o := .lst [.non, .int 5, .str (spS sx), .ref w1, .ref w2, .ref w3, .ref w4, .ref w5]) hw6
            refine ⟨_, rfl, _, p, _, 8, rfl, d6.1, by omega, by decide, by decide, fun zb Hb zb0 zb1 Bb => ?_⟩
            obtain ⟨bad, hbv, hbm⟩ := atI_in (xs := [V.non, .int 5, .str (spS sx), .ref w1, .ref w2, .ref w3, .ref w4, .ref w5]) zb0 zb1
            refine ⟨w6, _, zb, bad, rfl, rfl, SqL.of (Bb.same _ _ upd_same), hbv, ?_⟩
            have hbad : ∃ G, Same G9 G ∧ BoxIn G Hb p 40 ∧ ∃ ob, VD K G bad ob ∧ spanO ob = false ∧ sureV bad = true := by
              have m6 := d6.2
              have m5 := d5.2.trans m6
              have m4 := d4.2.trans m5
              have m3 := d3.2.trans m4
              have m2 := d2.2.trans m3
              refine ⟨_, d1.2.trans m2, Bb.mono (by omega), ?_⟩
              simp only [List.mem_cons, List.not_mem_nil, or_false] at hbm
              rcases hbm with rfl | rfl | rfl | rfl | rfl | rfl | rfl | rfl
              · exact ⟨_, .dat .non (by decide +kernel) (fun _ e => nomatch e), rfl, rfl⟩
              · exact ⟨_, .dat (.int 5) (by decide +kernel) (fun _ e => nomatch e), rfl, rfl⟩
              · exact ⟨_, vd_text tok, rfl, rfl⟩
              · exact ⟨some (.list [limD sx.1, limD sx.2]), .dat (.lst (SqL.of (m2 _ _ upd_same)) (dpAll_spV sx)) (shaped_two sx) (fun _ e => nomatch e), rfl, rfl⟩
              · exact ⟨some (.tuple [.int 1, .int 1]), .dat (.tup (SqT.of (m3 _ _ upd_same)) (.cons (.int 1) (.cons (.int 1) .nil))) (by decide +kernel) (fun _ e => nomatch e), by decide +kernel, rfl⟩
              · exact ⟨some (.tuple [.int 2, .int 1]), .dat (.tup (SqT.of (m4 _ _ upd_same)) (.cons (.int 2) (.cons (.int 1) .nil))) (by decide +kernel) (fun _ e => nomatch e), by decide +kernel, rfl⟩
              · exact ⟨some (.tuple [.int 1, .int 2, .int 3]), .dat (.tup (SqT.of (m5 _ _ upd_same)) (.cons (.int 1) (.cons (.int 2) (.cons (.int 3) .nil)))) (by decide +kernel) (fun _ e => nomatch e), by decide +kernel, rfl⟩
              · exact ⟨some (.tuple [.bool true, .int 2]), .dat (.tup (SqT.of (m6 _ _ upd_same)) (.cons (.bl true) (.cons (.int 2) .nil))) (by decide +kernel) (fun _ e => nomatch e), by decide +kernel, rfl⟩
            obtain ⟨Gb, sGb, Cb, ob, vb, nb, sb⟩ := hbad
            refine ⟨_, rfl, 1, bad, ob, rfl, vb.mono Cb.same, .inr ⟨by decide, nb, fun f Ha sa hf hfl => ?_⟩⟩
            refine ⟨_, rfl, (by show 2 ≤ sizeLine; decide), fun g hg => ?_⟩
            have sg := same_new (o := .lst [.str "span", bad]) hg
            refine ⟨f, g, [.str "span", bad], rfl, rfl, SqL.of (sg _ _ hfl), SqL.of upd_same, sure2 sb, _, rfl, iteF ?_⟩
            exact ⟨_, _, _, _, _, _, _, _, _, _, rfl, sH.trans (sG9.trans (sGb.trans (Cb.same.trans (sa.trans sg))))⟩
    · rintro σ H1 ⟨v1, v2, v3, v4, v5, v6, v7, v8, v9, v10, rfl, s1⟩
      exact k H1
end
theorem all_mk {l : PySem.W.OpenLaw} {w : World} {K : PySem.W.Frag} {h : Heap} {mg : Str → Option Value} {fa f0 f1 f2 f3 f4 f5 f6 f7 f8 f9 f10 f11 f12 f13 f14 f15 f16 f17 f18 f19 f20 : Addr} {C_PartsError : Addr} {C_InvalidSpan : Addr} {C_InvalidText : Addr} (X : K.In h) (G : h.Ns mainGlobals mg) (hfa : mg "law" = some (.ref fa))
    {od0 an0 : Option Addr} {sl0 : Array (Option Value)} {oc0 kV0 dc0 pm0 cd0 ct0 : Value}
    (a0 : PySem.W.findIn K (.ref C_InvalidSpan) "__init__" = some (some (.ref f0))) (l0 : K.lookup f0 = some ⟨oc0, od0, .func (PySem.W.fnOf "__init__" "InvalidSpan.__init__" (defArgs s_InvalidSpan_init) (defBody s_InvalidSpan_init) (defScope s_InvalidSpan_init) .none kV0 dc0 pm0 an0 cd0 ct0), sl0⟩) (c0 : PySem.W.codeIn K cd0 "InvalidSpan.__init__" = true) (k0 : PySem.W.keepIn K (.ref f0) = true)
    {od1 an1 : Option Addr} {sl1 : Array (Option Value)} {oc1 kV1 dc1 pm1 cd1 ct1 : Value}
    (a1 : PySem.W.findIn K (.ref C_InvalidText) "__init__" = some (some (.ref f1))) (l1 : K.lookup f1 = some ⟨oc1, od1, .func (PySem.W.fnOf "__init__" "InvalidText.__init__" (defArgs s_InvalidText_init) (defBody s_InvalidText_init) (defScope s_InvalidText_init) .none kV1 dc1 pm1 an1 cd1 ct1), sl1⟩) (c1 : PySem.W.codeIn K cd1 "InvalidText.__init__" = true) (k1 : PySem.W.keepIn K (.ref f1) = true)
    {od2 an2 : Option Addr} {sl2 : Array (Option Value)} {oc2 kV2 dc2 pm2 cd2 ct2 : Value}
    (a2 : PySem.W.nsIn K mainGlobals "is_integer" = some (some (.ref f2))) (l2 : K.lookup f2 = some ⟨oc2, od2, .func (PySem.W.fnOf "is_integer" "is_integer" (defArgs s_is_integer) (defBody s_is_integer) (defScope s_is_integer) .none kV2 dc2 pm2 an2 cd2 ct2), sl2⟩) (c2 : PySem.W.codeIn K cd2 "is_integer" = true) (k2 : PySem.W.keepIn K (.ref f2) = true)
    {od3 an3 : Option Addr} {sl3 : Array (Option Value)} {oc3 kV3 dc3 pm3 cd3 ct3 : Value}
    (a3 : PySem.W.nsIn K mainGlobals "is_span" = some (some (.ref f3))) (l3 : K.lookup f3 = some ⟨oc3, od3, .func (PySem.W.fnOf "is_span" "is_span" (defArgs s_is_span) (defBody s_is_span) (defScope s_is_span) .none kV3 dc3 pm3 an3 cd3 ct3), sl3⟩) (c3 : PySem.W.codeIn K cd3 "is_span" = true) (k3 : PySem.W.keepIn K (.ref f3) = true)
    {od4 an4 : Option Addr} {sl4 : Array (Option Value)} {oc4 kV4 dc4 pm4 cd4 ct4 : Value}
    (a4 : PySem.W.nsIn K mainGlobals "is_limit" = some (some (.ref f4))) (l4 : K.lookup f4 = some ⟨oc4, od4, .func (PySem.W.fnOf "is_limit" "is_limit" (defArgs s_is_limit) (defBody s_is_limit) (defScope s_is_limit) .none kV4 dc4 pm4 an4 cd4 ct4), sl4⟩) (c4 : PySem.W.codeIn K cd4 "is_limit" = true) (k4 : PySem.W.keepIn K (.ref f4) = true)
    {od5 an5 : Option Addr} {sl5 : Array (Option Value)} {oc5 kV5 dc5 pm5 cd5 ct5 : Value}
    (a5 : PySem.W.nsIn K mainGlobals "require_span" = some (some (.ref f5))) (l5 : K.lookup f5 = some ⟨oc5, od5, .func (PySem.W.fnOf "require_span" "require_span" (defArgs s_require_span) (defBody s_require_span) (defScope s_require_span) .none kV5 dc5 pm5 an5 cd5 ct5), sl5⟩) (c5 : PySem.W.codeIn K cd5 "require_span" = true) (k5 : PySem.W.keepIn K (.ref f5) = true)
    {od6 an6 : Option Addr} {sl6 : Array (Option Value)} {oc6 kV6 dc6 pm6 cd6 ct6 : Value}
    (a6 : PySem.W.nsIn K mainGlobals "span_text" = some (some (.ref f6))) (l6 : K.lookup f6 = some ⟨oc6, od6, .func (PySem.W.fnOf "span_text" "span_text" (defArgs s_span_text) (defBody s_span_text) (defScope s_span_text) .none kV6 dc6 pm6 an6 cd6 ct6), sl6⟩) (c6 : PySem.W.codeIn K cd6 "span_text" = true) (k6 : PySem.W.keepIn K (.ref f6) = true)
    {od7 an7 : Option Addr} {sl7 : Array (Option Value)} {oc7 kV7 dc7 pm7 cd7 ct7 : Value}
    (a7 : PySem.W.nsIn K mainGlobals "limit_text" = some (some (.ref f7))) (l7 : K.lookup f7 = some ⟨oc7, od7, .func (PySem.W.fnOf "limit_text" "limit_text" (defArgs s_limit_text) (defBody s_limit_text) (defScope s_limit_text) .none kV7 dc7 pm7 an7 cd7 ct7), sl7⟩) (c7 : PySem.W.codeIn K cd7 "limit_text" = true) (k7 : PySem.W.keepIn K (.ref f7) = true)
    {od8 an8 : Option Addr} {sl8 : Array (Option Value)} {oc8 kV8 dc8 pm8 cd8 ct8 : Value}
    (a8 : PySem.W.nsIn K mainGlobals "read_span" = some (some (.ref f8))) (l8 : K.lookup f8 = some ⟨oc8, od8, .func (PySem.W.fnOf "read_span" "read_span" (defArgs s_read_span) (defBody s_read_span) (defScope s_read_span) .none kV8 dc8 pm8 an8 cd8 ct8), sl8⟩) (c8 : PySem.W.codeIn K cd8 "read_span" = true) (k8 : PySem.W.keepIn K (.ref f8) = true)
    {od9 an9 : Option Addr} {sl9 : Array (Option Value)} {oc9 kV9 dc9 pm9 cd9 ct9 : Value}
    (a9 : PySem.W.nsIn K mainGlobals "is_limit_text" = some (some (.ref f9))) (l9 : K.lookup f9 = some ⟨oc9, od9, .func (PySem.W.fnOf "is_limit_text" "is_limit_text" (defArgs s_is_limit_text) (defBody s_is_limit_text) (defScope s_is_limit_text) .none kV9 dc9 pm9 an9 cd9 ct9), sl9⟩) (c9 : PySem.W.codeIn K cd9 "is_limit_text" = true) (k9 : PySem.W.keepIn K (.ref f9) = true)
    {od10 an10 : Option Addr} {sl10 : Array (Option Value)} {oc10 kV10 dc10 pm10 cd10 ct10 : Value}
    (a10 : PySem.W.nsIn K mainGlobals "read_limit" = some (some (.ref f10))) (l10 : K.lookup f10 = some ⟨oc10, od10, .func (PySem.W.fnOf "read_limit" "read_limit" (defArgs s_read_limit) (defBody s_read_limit) (defScope s_read_limit) .none kV10 dc10 pm10 an10 cd10 ct10), sl10⟩) (c10 : PySem.W.codeIn K cd10 "read_limit" = true) (k10 : PySem.W.keepIn K (.ref f10) = true)
    {od11 an11 : Option Addr} {sl11 : Array (Option Value)} {oc11 kV11 dc11 pm11 cd11 ct11 : Value}
    (a11 : PySem.W.nsIn K mainGlobals "is_number_text" = some (some (.ref f11))) (l11 : K.lookup f11 = some ⟨oc11, od11, .func (PySem.W.fnOf "is_number_text" "is_number_text" (defArgs s_is_number_text) (defBody s_is_number_text) (defScope s_is_number_text) .none kV11 dc11 pm11 an11 cd11 ct11), sl11⟩) (c11 : PySem.W.codeIn K cd11 "is_number_text" = true) (k11 : PySem.W.keepIn K (.ref f11) = true)
    {od12 an12 : Option Addr} {sl12 : Array (Option Value)} {oc12 kV12 dc12 pm12 cd12 ct12 : Value}
    (a12 : PySem.W.nsIn K mainGlobals "_law_cell" = some (some (.ref f12))) (l12 : K.lookup f12 = some ⟨oc12, od12, .func (PySem.W.fnOf "_law_cell" "_law_cell" (defArgs s_law_cell) (defBody s_law_cell) (defScope s_law_cell) .none kV12 dc12 pm12 an12 cd12 ct12), sl12⟩) (c12 : PySem.W.codeIn K cd12 "_law_cell" = true) (k12 : PySem.W.keepIn K (.ref f12) = true)
    {od13 an13 : Option Addr} {sl13 : Array (Option Value)} {oc13 kV13 dc13 pm13 cd13 ct13 : Value}
    (a13 : PySem.W.nsIn K mainGlobals "_law_box" = some (some (.ref f13))) (l13 : K.lookup f13 = some ⟨oc13, od13, .func (PySem.W.fnOf "_law_box" "_law_box" (defArgs s_law_box) (defBody s_law_box) (defScope s_law_box) .none kV13 dc13 pm13 an13 cd13 ct13), sl13⟩) (c13 : PySem.W.codeIn K cd13 "_law_box" = true) (k13 : PySem.W.keepIn K (.ref f13) = true)
    {od14 an14 : Option Addr} {sl14 : Array (Option Value)} {oc14 kV14 dc14 pm14 cd14 ct14 : Value}
    (a14 : PySem.W.nsIn K mainGlobals "_law_take" = some (some (.ref f14))) (l14 : K.lookup f14 = some ⟨oc14, od14, .func (PySem.W.fnOf "_law_take" "_law_take" (defArgs s_law_take) (defBody s_law_take) (defScope s_law_take) .none kV14 dc14 pm14 an14 cd14 ct14), sl14⟩) (c14 : PySem.W.codeIn K cd14 "_law_take" = true) (k14 : PySem.W.keepIn K (.ref f14) = true)
    {od15 an15 : Option Addr} {sl15 : Array (Option Value)} {oc15 kV15 dc15 pm15 cd15 ct15 : Value}
    (a15 : PySem.W.nsIn K mainGlobals "_law_span" = some (some (.ref f15))) (l15 : K.lookup f15 = some ⟨oc15, od15, .func (PySem.W.fnOf "_law_span" "_law_span" (defArgs s_law_span) (defBody s_law_span) (defScope s_law_span) .none kV15 dc15 pm15 an15 cd15 ct15), sl15⟩) (c15 : PySem.W.codeIn K cd15 "_law_span" = true) (k15 : PySem.W.keepIn K (.ref f15) = true)
    {od16 an16 : Option Addr} {sl16 : Array (Option Value)} {oc16 kV16 dc16 pm16 cd16 ct16 : Value}
    (a16 : PySem.W.nsIn K mainGlobals "_law_number" = some (some (.ref f16))) (l16 : K.lookup f16 = some ⟨oc16, od16, .func (PySem.W.fnOf "_law_number" "_law_number" (defArgs s_law_number) (defBody s_law_number) (defScope s_law_number) .none kV16 dc16 pm16 an16 cd16 ct16), sl16⟩) (c16 : PySem.W.codeIn K cd16 "_law_number" = true) (k16 : PySem.W.keepIn K (.ref f16) = true)
    {od17 an17 : Option Addr} {sl17 : Array (Option Value)} {oc17 kV17 dc17 pm17 cd17 ct17 : Value}
    (a17 : PySem.W.nsIn K mainGlobals "_law_read" = some (some (.ref f17))) (l17 : K.lookup f17 = some ⟨oc17, od17, .func (PySem.W.fnOf "_law_read" "_law_read" (defArgs s_law_read) (defBody s_law_read) (defScope s_law_read) .none kV17 dc17 pm17 an17 cd17 ct17), sl17⟩) (c17 : PySem.W.codeIn K cd17 "_law_read" = true) (k17 : PySem.W.keepIn K (.ref f17) = true)
    {od18 an18 : Option Addr} {sl18 : Array (Option Value)} {oc18 kV18 dc18 pm18 cd18 ct18 : Value}
    (a18 : PySem.W.nsIn K mainGlobals "_law_told" = some (some (.ref f18))) (l18 : K.lookup f18 = some ⟨oc18, od18, .func (PySem.W.fnOf "_law_told" "_law_told" (defArgs s_law_told) (defBody s_law_told) (defScope s_law_told) .none kV18 dc18 pm18 an18 cd18 ct18), sl18⟩) (c18 : PySem.W.codeIn K cd18 "_law_told" = true) (k18 : PySem.W.keepIn K (.ref f18) = true)
    {od19 an19 : Option Addr} {sl19 : Array (Option Value)} {oc19 kV19 dc19 pm19 cd19 ct19 : Value}
    (a19 : PySem.W.nsIn K mainGlobals "_law_bent" = some (some (.ref f19))) (l19 : K.lookup f19 = some ⟨oc19, od19, .func (PySem.W.fnOf "_law_bent" "_law_bent" (defArgs s_law_bent) (defBody s_law_bent) (defScope s_law_bent) .none kV19 dc19 pm19 an19 cd19 ct19), sl19⟩) (c19 : PySem.W.codeIn K cd19 "_law_bent" = true) (k19 : PySem.W.keepIn K (.ref f19) = true)
    {od20 an20 : Option Addr} {sl20 : Array (Option Value)} {oc20 kV20 dc20 pm20 cd20 ct20 : Value}
    (a20 : PySem.W.nsIn K mainGlobals "law" = some (some (.ref f20))) (l20 : K.lookup f20 = some ⟨oc20, od20, .func (PySem.W.fnOf "law" "law" (defArgs s_law) (defBody s_law) (defScope s_law) .none kV20 dc20 pm20 an20 cd20 ct20), sl20⟩) (c20 : PySem.W.codeIn K cd20 "law" = true) (k20 : PySem.W.keepIn K (.ref f20) = true)
    (g_PartsError : PySem.W.nsIn K mainGlobals "PartsError" = some (some (.ref C_PartsError)))
    (g_InvalidSpan : PySem.W.nsIn K mainGlobals "InvalidSpan" = some (some (.ref C_InvalidSpan)))
    {nm_InvalidSpan qn_InvalidSpan : Str} {N_InvalidSpan : Addr} {bs_InvalidSpan bm_InvalidSpan : List Value} {sn_InvalidSpan : List Str} {sub_InvalidSpan : List Value} {ab_InvalidSpan : Bool} {col_InvalidSpan : Option Bool} {dd_InvalidSpan : Option Addr} {m0_InvalidSpan m1_InvalidSpan m2_InvalidSpan m3_InvalidSpan m5_InvalidSpan : Option Value}
    (xL_InvalidSpan : K.lookup C_InvalidSpan = some (excClassObj nm_InvalidSpan qn_InvalidSpan C_InvalidSpan N_InvalidSpan bs_InvalidSpan bm_InvalidSpan true sn_InvalidSpan sub_InvalidSpan ab_InvalidSpan col_InvalidSpan dd_InvalidSpan m0_InvalidSpan m1_InvalidSpan m2_InvalidSpan m3_InvalidSpan m5_InvalidSpan "ValueError.__new__")) (rB_InvalidSpan : PySem.HandSPX.refsVE bm_InvalidSpan = true)
    (sa_InvalidSpan : PySem.W.findIn K (.ref C_InvalidSpan) "__setattr__" = some (some (.builtin "object.__setattr__"))) (ga_InvalidSpan : PySem.W.findIn K (.ref C_InvalidSpan) "__getattribute__" = some (some (.builtin "BaseException.__getattribute__"))) (gg_InvalidSpan : PySem.W.findIn K (.ref C_InvalidSpan) "__getattr__" = some none) (nb_InvalidSpan : PySem.W.findIn K (.ref C_InvalidSpan) "value" = some none)
    (t1_InvalidSpan : PySem.W.typeIn K (.ref f0) = some (.type "function")) (kC_InvalidSpan : PySem.W.keepIn K (.ref C_InvalidSpan) = true) (eC_InvalidSpan : PySem.W.subIn K (.ref C_InvalidSpan) (.type "BaseException") = some true) (tC_InvalidSpan : PySem.W.typeIn K (.ref C_InvalidSpan) = some (.type "type")) (hC_InvalidSpan : PySem.W.hasDictIn K C_InvalidSpan = true)
    (g_InvalidText : PySem.W.nsIn K mainGlobals "InvalidText" = some (some (.ref C_InvalidText)))
    {nm_InvalidText qn_InvalidText : Str} {N_InvalidText : Addr} {bs_InvalidText bm_InvalidText : List Value} {sn_InvalidText : List Str} {sub_InvalidText : List Value} {ab_InvalidText : Bool} {col_InvalidText : Option Bool} {dd_InvalidText : Option Addr} {m0_InvalidText m1_InvalidText m2_InvalidText m3_InvalidText m5_InvalidText : Option Value}
    (xL_InvalidText : K.lookup C_InvalidText = some (excClassObj nm_InvalidText qn_InvalidText C_InvalidText N_InvalidText bs_InvalidText bm_InvalidText true sn_InvalidText sub_InvalidText ab_InvalidText col_InvalidText dd_InvalidText m0_InvalidText m1_InvalidText m2_InvalidText m3_InvalidText m5_InvalidText "ValueError.__new__")) (rB_InvalidText : PySem.HandSPX.refsVE bm_InvalidText = true)
    (sa_InvalidText : PySem.W.findIn K (.ref C_InvalidText) "__setattr__" = some (some (.builtin "object.__setattr__"))) (ga_InvalidText : PySem.W.findIn K (.ref C_InvalidText) "__getattribute__" = some (some (.builtin "BaseException.__getattribute__"))) (gg_InvalidText : PySem.W.findIn K (.ref C_InvalidText) "__getattr__" = some none) (nb_InvalidText : PySem.W.findIn K (.ref C_InvalidText) "value" = some none)
    (t1_InvalidText : PySem.W.typeIn K (.ref f1) = some (.type "function")) (kC_InvalidText : PySem.W.keepIn K (.ref C_InvalidText) = true) (eC_InvalidText : PySem.W.subIn K (.ref C_InvalidText) (.type "BaseException") = some true) (tC_InvalidText : PySem.W.typeIn K (.ref C_InvalidText) = some (.type "type")) (hC_InvalidText : PySem.W.hasDictIn K C_InvalidText = true)
    (e_InvalidSpan_InvalidSpan : PySem.W.exmOne K (.ref C_InvalidSpan) (.ref C_InvalidSpan) = some true)
    (e_InvalidSpan_InvalidText : PySem.W.exmOne K (.ref C_InvalidSpan) (.ref C_InvalidText) = some false)
    (e_InvalidText_InvalidText : PySem.W.exmOne K (.ref C_InvalidText) (.ref C_InvalidText) = some true)
    {t_MOST_DIGITS : Tok} (v_MOST_DIGITS : PySem.W.nsIn K mainGlobals "MOST_DIGITS" = some (some (.int 30 t_MOST_DIGITS)))
    (z_isinstance : PySem.W.nsIn K mainGlobals "isinstance" = some none)
    (z_int : PySem.W.nsIn K mainGlobals "int" = some none)
    (z_bool : PySem.W.nsIn K mainGlobals "bool" = some none)
    (z_tuple : PySem.W.nsIn K mainGlobals "tuple" = some none)
    (z_len : PySem.W.nsIn K mainGlobals "len" = some none)
    (z_str : PySem.W.nsIn K mainGlobals "str" = some none)
    (z_all : PySem.W.nsIn K mainGlobals "all" = some none)
    (z_max : PySem.W.nsIn K mainGlobals "max" = some none)
    (z_range : PySem.W.nsIn K mainGlobals "range" = some none)
    (z_min : PySem.W.nsIn K mainGlobals "min" = some none)
    (z_list : PySem.W.nsIn K mainGlobals "list" = some none)
    : ∃ fd : FuncData, (∀ (s : Shared) (v : Value), BindsTo s fd ⟨[v], []⟩ [("_law_script", v)]) ∧ ∀ base : Heap, K.In base → base.Ns mainGlobals mg → FnOk l.prog w K mg base CX0 7 fa fd ["_law_script"] (sp_law K) := by
  have e := hfa.symm.trans (PySem.W.mg_of X G a20)
  cases e
  let T : Txt K mg := {
    f_InvalidSpan_init := f0, fd_InvalidSpan_init := _, F_InvalidSpan_init := fun_mk (st := s_InvalidSpan_init) l0 c0 k0, b_InvalidSpan_init := (fun_mk (st := s_InvalidSpan_init) l0 c0 k0).binds (ps := ["self", "value"]) fun _ _ _ _ _ _ us hl => match us, hl with | [_, _], _ => rfl,
    f_InvalidText_init := f1, fd_InvalidText_init := _, F_InvalidText_init := fun_mk (st := s_InvalidText_init) l1 c1 k1, b_InvalidText_init := (fun_mk (st := s_InvalidText_init) l1 c1 k1).binds (ps := ["self", "value"]) fun _ _ _ _ _ _ us hl => match us, hl with | [_, _], _ => rfl,
    f_is_integer := f2, fd_is_integer := _, F_is_integer := fun_mk (st := s_is_integer) l2 c2 k2, b_is_integer := (fun_mk (st := s_is_integer) l2 c2 k2).binds (ps := ["value"]) fun _ _ _ _ _ _ us hl => match us, hl with | [_], _ => rfl, m_is_integer := PySem.W.mg_of X G a2,
    f_is_span := f3, fd_is_span := _, F_is_span := fun_mk (st := s_is_span) l3 c3 k3, b_is_span := (fun_mk (st := s_is_span) l3 c3 k3).binds (ps := ["value"]) fun _ _ _ _ _ _ us hl => match us, hl with | [_], _ => rfl, m_is_span := PySem.W.mg_of X G a3,
    f_is_limit := f4, fd_is_limit := _, F_is_limit := fun_mk (st := s_is_limit) l4 c4 k4, b_is_limit := (fun_mk (st := s_is_limit) l4 c4 k4).binds (ps := ["value"]) fun _ _ _ _ _ _ us hl => match us, hl with | [_], _ => rfl, m_is_limit := PySem.W.mg_of X G a4,
    f_require_span := f5, fd_require_span := _, F_require_span := fun_mk (st := s_require_span) l5 c5 k5, b_require_span := (fun_mk (st := s_require_span) l5 c5 k5).binds (ps := ["value"]) fun _ _ _ _ _ _ us hl => match us, hl with | [_], _ => rfl, m_require_span := PySem.W.mg_of X G a5,
    f_span_text := f6, fd_span_text := _, F_span_text := fun_mk (st := s_span_text) l6 c6 k6, b_span_text := (fun_mk (st := s_span_text) l6 c6 k6).binds (ps := ["span"]) fun _ _ _ _ _ _ us hl => match us, hl with | [_], _ => rfl, m_span_text := PySem.W.mg_of X G a6,
    f_limit_text := f7, fd_limit_text := _, F_limit_text := fun_mk (st := s_limit_text) l7 c7 k7, b_limit_text := (fun_mk (st := s_limit_text) l7 c7 k7).binds (ps := ["limit"]) fun _ _ _ _ _ _ us hl => match us, hl with | [_], _ => rfl, m_limit_text := PySem.W.mg_of X G a7,
    f_read_span := f8, fd_read_span := _, F_read_span := fun_mk (st := s_read_span) l8 c8 k8, b_read_span := (fun_mk (st := s_read_span) l8 c8 k8).binds (ps := ["text"]) fun _ _ _ _ _ _ us hl => match us, hl with | [_], _ => rfl, m_read_span := PySem.W.mg_of X G a8,
    f_is_limit_text := f9, fd_is_limit_text := _, F_is_limit_text := fun_mk (st := s_is_limit_text) l9 c9 k9, b_is_limit_text := (fun_mk (st := s_is_limit_text) l9 c9 k9).binds (ps := ["text"]) fun _ _ _ _ _ _ us hl => match us, hl with | [_], _ => rfl, m_is_limit_text := PySem.W.mg_of X G a9,
    f_read_limit := f10, fd_read_limit := _, F_read_limit := fun_mk (st := s_read_limit) l10 c10 k10, b_read_limit := (fun_mk (st := s_read_limit) l10 c10 k10).binds (ps := ["text"]) fun _ _ _ _ _ _ us hl => match us, hl with | [_], _ => rfl, m_read_limit := PySem.W.mg_of X G a10,
    f_is_number_text := f11, fd_is_number_text := _, F_is_number_text := fun_mk (st := s_is_number_text) l11 c11 k11, b_is_number_text := (fun_mk (st := s_is_number_text) l11 c11 k11).binds (ps := ["text"]) fun _ _ _ _ _ _ us hl => match us, hl with | [_], _ => rfl, m_is_number_text := PySem.W.mg_of X G a11,
    f_law_cell := f12, fd_law_cell := _, F_law_cell := fun_mk (st := s_law_cell) l12 c12 k12, b_law_cell := (fun_mk (st := s_law_cell) l12 c12 k12).binds (ps := ["_law_script", "_law_k"]) fun _ _ _ _ _ _ us hl => match us, hl with | [_, _], _ => rfl, m_law_cell := PySem.W.mg_of X G a12,
    f_law_box := f13, fd_law_box := _, F_law_box := fun_mk (st := s_law_box) l13 c13 k13, b_law_box := (fun_mk (st := s_law_box) l13 c13 k13).binds (ps := ["_law_cell_here"]) fun _ _ _ _ _ _ us hl => match us, hl with | [_], _ => rfl, m_law_box := PySem.W.mg_of X G a13,
    f_law_take := f14, fd_law_take := _, F_law_take := fun_mk (st := s_law_take) l14 c14 k14, b_law_take := (fun_mk (st := s_law_take) l14 c14 k14).binds (ps := ["_law_box_here", "_law_many"]) fun _ _ _ _ _ _ us hl => match us, hl with | [_, _], _ => rfl, m_law_take := PySem.W.mg_of X G a14,
    f_law_span := f15, fd_law_span := _, F_law_span := fun_mk (st := s_law_span) l15 c15 k15, b_law_span := (fun_mk (st := s_law_span) l15 c15 k15).binds (ps := ["_law_box_here"]) fun _ _ _ _ _ _ us hl => match us, hl with | [_], _ => rfl, m_law_span := PySem.W.mg_of X G a15,
    f_law_number := f16, fd_law_number := _, F_law_number := fun_mk (st := s_law_number) l16 c16 k16, b_law_number := (fun_mk (st := s_law_number) l16 c16 k16).binds (ps := ["_law_word"]) fun _ _ _ _ _ _ us hl => match us, hl with | [_], _ => rfl, m_law_number := PySem.W.mg_of X G a16,
    f_law_read := f17, fd_law_read := _, F_law_read := fun_mk (st := s_law_read) l17 c17 k17, b_law_read := (fun_mk (st := s_law_read) l17 c17 k17).binds (ps := ["_law_text"]) fun _ _ _ _ _ _ us hl => match us, hl with | [_], _ => rfl, m_law_read := PySem.W.mg_of X G a17,
    f_law_told := f18, fd_law_told := _, F_law_told := fun_mk (st := s_law_told) l18 c18 k18, b_law_told := (fun_mk (st := s_law_told) l18 c18 k18).binds (ps := ["_law_way", "_law_value"]) fun _ _ _ _ _ _ us hl => match us, hl with | [_, _], _ => rfl, m_law_told := PySem.W.mg_of X G a18,
    f_law_bent := f19, fd_law_bent := _, F_law_bent := fun_mk (st := s_law_bent) l19 c19 k19, b_law_bent := (fun_mk (st := s_law_bent) l19 c19 k19).binds (ps := ["_law_box_here", "_law_text"]) fun _ _ _ _ _ _ us hl => match us, hl with | [_, _], _ => rfl, m_law_bent := PySem.W.mg_of X G a19,
    f_law := fa, fd_law := _, F_law := fun_mk (st := s_law) l20 c20 k20, b_law := (fun_mk (st := s_law) l20 c20 k20).binds (ps := ["_law_script"]) fun _ _ _ _ _ _ us hl => match us, hl with | [_], _ => rfl, m_law := PySem.W.mg_of X G a20,
    C_PartsError := C_PartsError, g_PartsError := PySem.W.mg_of X G g_PartsError,
    C_InvalidSpan := C_InvalidSpan, g_InvalidSpan := PySem.W.mg_of X G g_InvalidSpan,
    x_InvalidSpan := ⟨⟨_, _, _, _, _, _, _, _, _, _, _, _, _, _, _, xL_InvalidSpan, rB_InvalidSpan⟩, sa_InvalidSpan, eC_InvalidSpan, tC_InvalidSpan, kC_InvalidSpan⟩, y_InvalidSpan := ⟨ga_InvalidSpan, gg_InvalidSpan, eC_InvalidSpan, hC_InvalidSpan⟩, n_InvalidSpan := nb_InvalidSpan, i_InvalidSpan := a0, t_InvalidSpan := t1_InvalidSpan,
    C_InvalidText := C_InvalidText, g_InvalidText := PySem.W.mg_of X G g_InvalidText,
    x_InvalidText := ⟨⟨_, _, _, _, _, _, _, _, _, _, _, _, _, _, _, xL_InvalidText, rB_InvalidText⟩, sa_InvalidText, eC_InvalidText, tC_InvalidText, kC_InvalidText⟩, y_InvalidText := ⟨ga_InvalidText, gg_InvalidText, eC_InvalidText, hC_InvalidText⟩, n_InvalidText := nb_InvalidText, i_InvalidText := a1, t_InvalidText := t1_InvalidText,
    e_InvalidSpan_InvalidSpan := e_InvalidSpan_InvalidSpan,
    e_InvalidSpan_InvalidText := e_InvalidSpan_InvalidText,
    e_InvalidText_InvalidText := e_InvalidText_InvalidText,
    t_MOST_DIGITS := t_MOST_DIGITS, c_MOST_DIGITS := PySem.W.mg_of X G v_MOST_DIGITS,
    z_isinstance := PySem.W.mg_none_of X G z_isinstance,
    z_int := PySem.W.mg_none_of X G z_int,
    z_bool := PySem.W.mg_none_of X G z_bool,
    z_tuple := PySem.W.mg_none_of X G z_tuple,
    z_len := PySem.W.mg_none_of X G z_len,
    z_str := PySem.W.mg_none_of X G z_str,
    z_all := PySem.W.mg_none_of X G z_all,
    z_max := PySem.W.mg_none_of X G z_max,
    z_range := PySem.W.mg_none_of X G z_range,
    z_min := PySem.W.mg_none_of X G z_min,
    z_list := PySem.W.mg_none_of X G z_list }
  exact ⟨T.fd_law, fun s v => .of_eq rfl, fun base _ _ => ok_law T⟩
theorem walk {l : PySem.W.OpenLaw} {q : Program} {loose : List Str} {XP : (Str → Option Value) → Heap → Prop} {YP : World → Heap → Prop} {d : DefRec} {K : Params → PySem.W.Frag} (hn : l.most = some 63) (hdf : d.params.defaults = [])
    (hY : ∀ (w : World) (h : Heap), YP w h → (K w.params).In h)
    (F : ∀ (w : World) (mg : Str → Option Value) (fa : Addr) (h : Heap), (K w.params).In h → h.Ns mainGlobals mg → mg d.name = some (.ref fa) →
      ∃ fd : FuncData, (∀ (s : Shared) (u : Value), BindsTo s fd ⟨[u], []⟩ [("_law_script", u)]) ∧ ∀ base : Heap, (K w.params).In base → base.Ns mainGlobals mg → FnOk l.prog w (K w.params) mg base CX0 7 fa fd ["_law_script"] (sp_law (K w.params))) :
    PySem.W.WalkO q loose XP YP l.row.toRowW d [] (fun f vs => PySem.call f vs) :=
  L2.walk_of (n := 63) (k := 7) (x := "_law_script") (CX := fun _ => CX0) (sp := fun w => sp_law (K w.params)) hn (by decide) hdf ⟨rfl, by decide, by decide⟩ hY F (fun _ _ a ns hl _ hS => ⟨a, ns, rfl, hS, hl, fun _ => rfl⟩) fun _ _ _ _ _ z => z
end My
open PySem PySem.W PyProof.Rows
set_option maxRecDepth 100000 in
set_option maxHeartbeats 0 in
theorem PySem.Challenge.cw_hungparts_k03_texts_of_spans_holds : PySem.Challenge.rw_hungparts_k03_texts_of_spans.Holds := by
  w_on; o_law; k_head; (case hw => w_witness2)
  k_fill
  refine My.walk (l := PySem.Challenge.rw_hungparts_k03_texts_of_spans) rfl rfl (fun w h Y => PySem.W.kIn_of Y) ?F
  case F =>
    intro w mg fa h KX G hmg
    refine' My.all_mk KX G hmg ?a0 ?l0 ?c0 ?k0 ?a1 ?l1 ?c1 ?k1 ?a2 ?l2 ?c2 ?k2 ?a3 ?l3 ?c3 ?k3 ?a4 ?l4 ?c4 ?k4 ?a5 ?l5 ?c5 ?k5 ?a6 ?l6 ?c6 ?k6 ?a7 ?l7 ?c7 ?k7 ?a8 ?l8 ?c8 ?k8 ?a9 ?l9 ?c9 ?k9 ?a10 ?l10 ?c10 ?k10 ?a11 ?l11 ?c11 ?k11 ?a12 ?l12 ?c12 ?k12 ?a13 ?l13 ?c13 ?k13 ?a14 ?l14 ?c14 ?k14 ?a15 ?l15 ?c15 ?k15 ?a16 ?l16 ?c16 ?k16 ?a17 ?l17 ?c17 ?k17 ?a18 ?l18 ?c18 ?k18 ?a19 ?l19 ?c19 ?k19 ?a20 ?l20 ?c20 ?k20 ?g_PartsError ?g_InvalidSpan ?xL_InvalidSpan ?rB_InvalidSpan ?sa_InvalidSpan ?ga_InvalidSpan ?gg_InvalidSpan ?nb_InvalidSpan ?t1_InvalidSpan ?kC_InvalidSpan ?eC_InvalidSpan ?tC_InvalidSpan ?hC_InvalidSpan ?g_InvalidText ?xL_InvalidText ?rB_InvalidText ?sa_InvalidText ?ga_InvalidText ?gg_InvalidText ?nb_InvalidText ?t1_InvalidText ?kC_InvalidText ?eC_InvalidText ?tC_InvalidText ?hC_InvalidText ?e_InvalidSpan_InvalidSpan ?e_InvalidSpan_InvalidText ?e_InvalidText_InvalidText ?v_MOST_DIGITS ?z_isinstance ?z_int ?z_bool ?z_tuple ?z_len ?z_str ?z_all ?z_max ?z_range ?z_min ?z_list
    (case g_PartsError => k_is)
    (case g_InvalidSpan => k_is)
    (case g_InvalidText => k_is)
    (case a0 => k_is)
    (case l0 => k_is)
    (case c0 => k_is)
    (case k0 => k_is)
    (case a1 => k_is)
    (case l1 => k_is)
    (case c1 => k_is)
    (case k1 => k_is)
    (case a2 => k_is)
    (case l2 => k_is)
    (case c2 => k_is)
    (case k2 => k_is)
    (case a3 => k_is)
    (case l3 => k_is)
    (case c3 => k_is)
    (case k3 => k_is)
    (case a4 => k_is)
    (case l4 => k_is)
    (case c4 => k_is)
    (case k4 => k_is)
    (case a5 => k_is)
    (case l5 => k_is)
    (case c5 => k_is)
    (case k5 => k_is)
    (case a6 => k_is)
    (case l6 => k_is)
    (case c6 => k_is)
    (case k6 => k_is)
    (case a7 => k_is)
    (case l7 => k_is)
    (case c7 => k_is)
    (case k7 => k_is)
    (case a8 => k_is)
    (case l8 => k_is)
    (case c8 => k_is)
    (case k8 => k_is)
    (case a9 => k_is)
    (case l9 => k_is)
    (case c9 => k_is)
    (case k9 => k_is)
    (case a10 => k_is)
    (case l10 => k_is)
    (case c10 => k_is)
    (case k10 => k_is)
    (case a11 => k_is)
    (case l11 => k_is)
    (case c11 => k_is)
    (case k11 => k_is)
    (case a12 => k_is)
    (case l12 => k_is)
    (case c12 => k_is)
    (case k12 => k_is)
    (case a13 => k_is)
    (case l13 => k_is)
    (case c13 => k_is)
    (case k13 => k_is)
    (case a14 => k_is)
    (case l14 => k_is)
    (case c14 => k_is)
    (case k14 => k_is)
    (case a15 => k_is)
    (case l15 => k_is)
    (case c15 => k_is)
    (case k15 => k_is)
    (case a16 => k_is)
    (case l16 => k_is)
    (case c16 => k_is)
    (case k16 => k_is)
    (case a17 => k_is)
    (case l17 => k_is)
    (case c17 => k_is)
    (case k17 => k_is)
    (case a18 => k_is)
    (case l18 => k_is)
    (case c18 => k_is)
    (case k18 => k_is)
    (case a19 => k_is)
    (case l19 => k_is)
    (case c19 => k_is)
    (case k19 => k_is)
    (case a20 => k_is)
    (case l20 => k_is)
    (case c20 => k_is)
    (case k20 => k_is)
    (case xL_InvalidSpan => k_is)
    (case rB_InvalidSpan => decide +kernel)
    (case sa_InvalidSpan => k_is)
    (case ga_InvalidSpan => k_is)
    (case gg_InvalidSpan => k_is)
    (case nb_InvalidSpan => k_is)
    (case t1_InvalidSpan => k_is)
    (case kC_InvalidSpan => k_is)
    (case eC_InvalidSpan => k_is)
    (case tC_InvalidSpan => k_is)
    (case hC_InvalidSpan => k_is)
    (case xL_InvalidText => k_is)
    (case rB_InvalidText => decide +kernel)
    (case sa_InvalidText => k_is)
    (case ga_InvalidText => k_is)
    (case gg_InvalidText => k_is)
    (case nb_InvalidText => k_is)
    (case t1_InvalidText => k_is)
    (case kC_InvalidText => k_is)
    (case eC_InvalidText => k_is)
    (case tC_InvalidText => k_is)
    (case hC_InvalidText => k_is)
    (case e_InvalidSpan_InvalidSpan => first | rfl | k_is)
    (case e_InvalidSpan_InvalidText => first | rfl | k_is)
    (case e_InvalidText_InvalidText => first | rfl | k_is)
    (case v_MOST_DIGITS => k_is)
    (case z_isinstance => k_is)
    (case z_int => k_is)
    (case z_bool => k_is)
    (case z_tuple => k_is)
    (case z_len => k_is)
    (case z_str => k_is)
    (case z_all => k_is)
    (case z_max => k_is)
    (case z_range => k_is)
    (case z_min => k_is)
    (case z_list => k_is)
#print axioms PySem.Challenge.cw_hungparts_k03_texts_of_spans_holds

