import PyProof.Rows.All
import Wide.All
import OpenK.AllK
import Wide.FinOn
import HandS.ForMost
import HandS.ForExc
import HandS.IsInst
import HandS.Walk
import HandS.Codes
import HandS.SortKw
import HandS.TryMany
import HandS.ExcInit
import HandS.ExcField
import KE.DatumOrd
import HandS.More
import HandS.CallSlots
import HandS.Defaults
import HandS.TupAny
import HandS.Deep
import HandS.Small
import HandS.Style
import HandS.Words
import PySem.Challenge.RW_hungparts_k21_steps_of_kinds
set_option Elab.async false
set_option linter.all false
set_option maxRecDepth 100000
set_option maxHeartbeats 4000000

namespace My
open PySem L2
def top (i : Nat) : Stmt := PySem.Challenge.pw_hungparts_k21_steps_of_kinds.main.body.getD i (.Pass ⟨0, 0, 0, 0⟩)
abbrev s_NoProgram_init : Stmt := inClass (top 2) 0
theorem sc_NoProgram_init : FnScope ["self", "kind"] ["self", "kind"] (defScope s_NoProgram_init) := ⟨rfl, rfl, rfl, by decide +kernel, rfl, by decide +kernel, by decide +kernel⟩
abbrev s_is_name : Stmt := top 5
theorem sc_is_name : FnScope ["value", "sign"] ["value"] (defScope s_is_name) := ⟨rfl, rfl, rfl, by decide +kernel, rfl, by decide +kernel, by decide +kernel⟩
abbrev s_is_kind : Stmt := top 10
theorem sc_is_kind : FnScope ["value"] ["value"] (defScope s_is_kind) := ⟨rfl, rfl, rfl, by decide +kernel, rfl, by decide +kernel, by decide +kernel⟩
abbrev s_require_kind : Stmt := top 11
theorem sc_require_kind : FnScope ["value"] ["value"] (defScope s_require_kind) := ⟨rfl, rfl, rfl, by decide +kernel, rfl, by decide +kernel, by decide +kernel⟩
abbrev s_is_step : Stmt := top 12
theorem sc_is_step : FnScope ["value", "kind", "word", "thing", "mode"] ["value", "kind"] (defScope s_is_step) := ⟨rfl, rfl, rfl, by decide +kernel, rfl, by decide +kernel, by decide +kernel⟩
abbrev s_law_cell : Stmt := top 14
theorem sc_law_cell : FnScope ["_law_script", "_law_k"] ["_law_script", "_law_k"] (defScope s_law_cell) := ⟨rfl, rfl, rfl, by decide +kernel, rfl, by decide +kernel, by decide +kernel⟩
abbrev s_law_box : Stmt := top 15
theorem sc_law_box : FnScope ["_law_cell_here"] ["_law_cell_here"] (defScope s_law_box) := ⟨rfl, rfl, rfl, by decide +kernel, rfl, by decide +kernel, by decide +kernel⟩
abbrev s_law_take : Stmt := top 16
theorem sc_law_take : FnScope ["_law_box_here", "_law_many", "_law_digit", "_law_number"] ["_law_box_here", "_law_many"] (defScope s_law_take) := ⟨rfl, rfl, rfl, by decide +kernel, rfl, by decide +kernel, by decide +kernel⟩
abbrev s_law_mixed : Stmt := top 17
theorem sc_law_mixed : FnScope ["_law_box_here", "_law_some", "_law_left", "_law_k"] ["_law_box_here", "_law_some"] (defScope s_law_mixed) := ⟨rfl, rfl, rfl, by decide +kernel, rfl, by decide +kernel, by decide +kernel⟩
abbrev s_law_names : Stmt := top 18
theorem sc_law_names : FnScope ["_law_box_here", "_law_many", "_law_letters", "_law_words", "_law_stem", "_law_first", "_law_step", "_law_way", "_law_found", "_law_k", "_law_sign", "_law_name"] ["_law_box_here", "_law_many"] (defScope s_law_names) := ⟨rfl, rfl, rfl, by decide +kernel, rfl, by decide +kernel, by decide +kernel⟩
abbrev s_law_kinds : Stmt := top 19
theorem sc_law_kinds : FnScope [] [] (defScope s_law_kinds) := ⟨rfl, rfl, rfl, by decide +kernel, rfl, by decide +kernel, by decide +kernel⟩
abbrev s_law_is_name : Stmt := top 20
theorem sc_law_is_name : FnScope ["_law_thing", "_law_sign"] ["_law_thing"] (defScope s_law_is_name) := ⟨rfl, rfl, rfl, by decide +kernel, rfl, by decide +kernel, by decide +kernel⟩
abbrev s_law_is_step : Stmt := top 21
theorem sc_law_is_step : FnScope ["_law_thing", "_law_sort", "_law_askers", "_law_changes", "_law_at", "_law_where", "_law_word", "_law_item"] ["_law_thing", "_law_sort"] (defScope s_law_is_step) := ⟨rfl, rfl, rfl, by decide +kernel, rfl, by decide +kernel, by decide +kernel⟩
abbrev s_law_drawn_step : Stmt := top 22
theorem sc_law_drawn_step : FnScope ["_law_box_here", "_law_modes", "_law_plain", "_law_where"] ["_law_box_here", "_law_modes"] (defScope s_law_drawn_step) := ⟨rfl, rfl, rfl, by decide +kernel, rfl, by decide +kernel, by decide +kernel⟩
abbrev s_law_bent : Stmt := top 23
theorem sc_law_bent : FnScope ["_law_box_here", "_law_step", "_law_items", "_law_odd", "_law_at", "_law_way"] ["_law_box_here", "_law_step"] (defScope s_law_bent) := ⟨rfl, rfl, rfl, by decide +kernel, rfl, by decide +kernel, by decide +kernel⟩
abbrev s_law_told : Stmt := top 24
theorem sc_law_told : FnScope ["_law_thing", "_law_sort", "e"] ["_law_thing", "_law_sort"] (defScope s_law_told) := ⟨rfl, rfl, rfl, by decide +kernel, rfl, by decide +kernel, by decide +kernel⟩
abbrev s_law : Stmt := top 25
theorem sc_law : FnScope ["_law_script", "_law_k", "_law_box_here", "_law_modes", "_law_turn", "_law_step", "_law_odd", "_law_thing", "_law_sort", "_law_told_here", "_law_strange"] ["_law_script"] (defScope s_law) := ⟨rfl, rfl, rfl, by decide +kernel, rfl, by decide +kernel, by decide +kernel⟩

/-! ### further rules -/
section
variable {X : Cx}
theorem holdAll_ints {h : Heap} : ∀ {us : List Value} {ns : List Int}, Vals (ns.map V.int) us → PySem.W.HoldAll (α := Int) h us ns
  | _, [], .nil => ⟨_, .nil⟩
  | _, n :: r, .cons ⟨t, e⟩ k => by
    subst e
    obtain ⟨as, q⟩ := holdAll_ints (h := h) k
    exact ⟨_, .cons (.int n t) q⟩
theorem holds_int {h : Heap} {v : Value} {n : Int} (H : PySem.W.Holds (α := Int) h v n) : ∃ t, v = .int n t := by
  obtain ⟨as, r⟩ := H
  cases r
  exact ⟨_, rfl⟩
theorem maxOf_ints : ∀ (ys : List Int) (y : Int), PySem.W.maxOf y ys ∈ y :: ys ∧ ∀ n ∈ y :: ys, n ≤ PySem.W.maxOf y ys := by
  intro ys
  induction ys with
  | nil =>
    intro y
    exact ⟨List.mem_cons_self, fun n hn => by cases List.mem_singleton.mp hn; exact Int.le_refl _⟩
  | cons z r ih =>
    intro y
    have e : PySem.W.maxOf y (z :: r) = PySem.W.maxOf (if y < z then z else y) r := by
      show List.foldl _ (if decide (y < z) = true then z else y) r = _
      simp only [decide_eq_true_eq]
      rfl
    rw [e]
    obtain ⟨h1, h2⟩ := ih (if y < z then z else y)
    have hy := h2 _ List.mem_cons_self
    have hyz : y ≤ (if y < z then z else y) ∧ z ≤ (if y < z then z else y) := by
      split <;> omega
    refine ⟨?_, fun n hn => ?_⟩
    · rcases List.mem_cons.mp h1 with q | q
      · rw [q]
        split <;> simp
      · exact List.mem_cons_of_mem _ (List.mem_cons_of_mem _ q)
    · rcases List.mem_cons.mp hn with rfl | hn
      · omega
      · rcases List.mem_cons.mp hn with rfl | hn
        · omega
        · exact h2 n (List.mem_cons_of_mem _ hn)
theorem minOf_ints : ∀ (ys : List Int) (y : Int), PySem.W.minOf y ys ∈ y :: ys ∧ ∀ n ∈ y :: ys, PySem.W.minOf y ys ≤ n := by
  intro ys
  induction ys with
  | nil =>
    intro y
    exact ⟨List.mem_cons_self, fun n hn => by cases List.mem_singleton.mp hn; exact Int.le_refl _⟩
  | cons z r ih =>
    intro y
    have e : PySem.W.minOf y (z :: r) = PySem.W.minOf (if z < y then z else y) r := by
      show List.foldl _ (if decide (z < y) = true then z else y) r = _
      simp only [decide_eq_true_eq]
      rfl
    rw [e]
    obtain ⟨h1, h2⟩ := ih (if z < y then z else y)
    have hy := h2 _ List.mem_cons_self
    have hyz : (if z < y then z else y) ≤ y ∧ (if z < y then z else y) ≤ z := by
      split <;> omega
    refine ⟨?_, fun n hn => ?_⟩
    · rcases List.mem_cons.mp h1 with q | q
      · rw [q]
        split <;> simp
      · exact List.mem_cons_of_mem _ (List.mem_cons_of_mem _ q)
    · rcases List.mem_cons.mp hn with rfl | hn
      · omega
      · rcases List.mem_cons.mp hn with rfl | hn
        · omega
        · exact h2 n (List.mem_cons_of_mem _ hn)
/-- max(xs, default=d), xs a list of whole numbers -/
def rMaxD (K : PySem.W.Frag) : List V → List V → Hp → VK → Prop := fun xs zs H Q => ∃ (a : Addr) (ns : List Int) (d : V), xs = [.ref a] ∧ zs = [d] ∧ SqL K H a (ns.map V.int) ∧ (ns = [] → Q d H) ∧ ∀ m, m ∈ ns → (∀ n ∈ ns, n ≤ m) → Q (.int m) H
def rMinD (K : PySem.W.Frag) : List V → List V → Hp → VK → Prop := fun xs zs H Q => ∃ (a : Addr) (ns : List Int) (d : V), xs = [.ref a] ∧ zs = [d] ∧ SqL K H a (ns.map V.int) ∧ (ns = [] → Q d H) ∧ ∀ m, m ∈ ns → (∀ n ∈ ns, m ≤ n) → Q (.int m) H
theorem cr_maxD (hc : X.calm = true) (hu : X.A.units + 64 < cLine) : CallRK X (.builtin "max") ["default"] (rMaxD X.K) := by
  intro pins s σ H xs zs us ws Q I rx rz h
  obtain ⟨a, ns, d, rfl, rfl, hS, h0, h1⟩ := h
  obtain ⟨its, rv, pl, _⟩ := I.list hS
  obtain ⟨u, rfl, ru⟩ := vals1 rx
  obtain ⟨dv, rfl, rd⟩ := vals1 rz
  cases ru
  refine PySem.W.max_list_datum_default (α := Int) (xs := ns) (I.ok.hd hc) pl.isList (holdAll_ints (by simpa using rv)) (by show X.A.units + 1 + 0 < cLine; omega) (fun e h' tk k => ⟨d, H, I.kept k, rd, h0 e⟩) fun y ys i v h' tk e hi hh k => ?_
  subst e
  obtain ⟨t, rfl⟩ := holds_int hh
  have m := maxOf_ints ys y
  exact ⟨.int _, H, I.kept k, ⟨t, rfl⟩, h1 _ m.1 m.2⟩
theorem cr_minD (hc : X.calm = true) (hu : X.A.units + 64 < cLine) : CallRK X (.builtin "min") ["default"] (rMinD X.K) := by
  intro pins s σ H xs zs us ws Q I rx rz h
  obtain ⟨a, ns, d, rfl, rfl, hS, h0, h1⟩ := h
  obtain ⟨its, rv, pl, _⟩ := I.list hS
  obtain ⟨u, rfl, ru⟩ := vals1 rx
  obtain ⟨dv, rfl, rd⟩ := vals1 rz
  cases ru
  refine PySem.W.min_list_datum_default (α := Int) (xs := ns) (I.ok.hd hc) pl.isList (holdAll_ints (by simpa using rv)) (by show X.A.units + 1 + 0 < cLine; omega) (fun e h' tk k => ⟨d, H, I.kept k, rd, h0 e⟩) fun y ys i v h' tk e hi hh k => ?_
  subst e
  obtain ⟨t, rfl⟩ := holds_int hh
  have m := minOf_ints ys y
  exact ⟨.int _, H, I.kept k, ⟨t, rfl⟩, h1 _ m.1 m.2⟩
/-- what is surely the same: a flat value, or one object -/
def sureV (v : V) : Bool := flatB v || (match v with | .ref _ => true | _ => false)
theorem sure_eq {A : Around} {s : Shared} {v : V} {u u' : Value} (r : RelV v u) (r' : RelV v u') (f : sureV v = true) : SeqAt.EqAt A s u u' true := by
  cases v with
  | ref a =>
    cases (show u = Value.ref a from r)
    cases (show u' = Value.ref a from r')
    exact SeqAt.EqAt.same _
  | ty n => cases f
  | flt b => cases f
  | _ => exact eqAt_same r r' rfl
/-- two lists of the same items: they are not unlike -/
def rNeS (K : PySem.W.Frag) : R2 := fun x y H Q => ∃ (a b : Addr) (xs : List V), x = .ref a ∧ y = .ref b ∧ SqL K H a xs ∧ SqL K H b xs ∧ xs.all sureV = true ∧ Q (.bl false) H
theorem op_neS (hu : X.A.units + 64 < cLine) : OpR X (compareOp .NotEq) (rNeS X.K) := by
  intro pins s σ H x y v u Q I rx ry h
  obtain ⟨a, b, xs, rfl, rfl, ha, hb, hf, q⟩ := h
  cases (show v = Value.ref a from rx)
  cases (show u = Value.ref b from ry)
  obtain ⟨us, r1, p1, _⟩ := I.list ha
  obtain ⟨ws, r2, p2, _⟩ := I.list hb
  have hl : us.toArray.size = ws.toArray.size := by
    rw [List.size_toArray, List.size_toArray, ← r1.length, ← r2.length]
  refine SeqAt.RcNeAt.lists (e := fun _ => true) p1.isList p2.isList hl (by omega) (fun j h1 h2 => ?_) X.prog X.w _ _ ?_
  · have hj : j < xs.length := by
      rw [r1.length]
      simpa using h1
    obtain ⟨u1, e1, q1⟩ := r1.get (List.getElem?_eq_getElem hj)
    obtain ⟨u2, e2, q2⟩ := r2.get (List.getElem?_eq_getElem hj)
    have k1 : us.toArray[j] = u1 := by
      have := List.getElem?_eq_some_iff.mp e1
      simpa using this.2
    have k2 : ws.toArray[j] = u2 := by
      have := List.getElem?_eq_some_iff.mp e2
      simpa using this.2
    rw [k1, k2]
    exact sure_eq q1 q2 (List.all_eq_true.mp hf _ (List.getElem_mem hj))
  · have ea : ((List.range us.toArray.size).all fun _ => true) = true := List.all_eq_true.mpr fun _ _ => rfl
    rw [ea]
    exact ⟨.bl false, H, I, rfl, q⟩
end
/-! ### try with several clauses, each of which names the exception: slot i is the name's -/
/-- what the clauses wish of an exception of the body, one after the other -/
def wManyAs (K : PySem.W.Frag) (i : Nat) (Wout : WX) (D : Ends) : List (Value × (Addr → Value → Option Addr → TS)) → WX
  | [] => Wout
  | (c, ts) :: r => wAs K c i ts (wManyAs K i Wout D r) D
inductive HdsAs (X : Cx) (n : Str) : List ExceptHandler → List (Value × (Addr → Value → Option Addr → TS)) → Prop
  | nil : HdsAs X n [] []
  | cons {x : Str} {c : Value} {ts : Addr → Value → Option Addr → TS} {st : Stmt} {sts : List Stmt} {p1 p2 : Pos} {hs : List ExceptHandler} {l : List (Value × (Addr → Value → Option Addr → TS))} (hc : Names X x c)
      (hb : ∀ (a : Addr) (o : Obj) (cls : Value) (d : Option Addr) (pn : List (Addr × Obj)), Zc cls d o → (∃ vs, o.data = .fields vs) → PSs (X.suite a ((a, o) :: pn)) (st :: sts) (ts a cls d)) (r : HdsAs X n hs l) :
      HdsAs X n (.ExceptHandler (some (.Name x p1)) (some n) (st :: sts) p2 :: hs) ((c, ts) :: l)
section
variable {X : Cx} {n : Str} {i : Nat} {pos : Pos} {tb : WX → TS} {Wout : WX} {body : List Stmt}
theorem ps_try_manyAs {g₀ : ExceptHandler} {gs : List ExceptHandler} {l : List (Value × (Addr → Value → Option Addr → TS))} (stk : X.stack = X.env :: X.outer) (frm : X.env.frame = some X.env.locals) (nodup : X.N.Nodup) (at_i : X.N[i]? = some n) (lcl : X.env.kindOf n = some .local)
    (out : Takes X Wout) (hbody : ∀ (W : WX) (pn : List (Addr × Obj)) (xe : Value → Shared → Prop), Takes (X.tr pn xe) W → PassesOwn (model X.prog X.w) X.A X.env xe → PSs (X.tr pn xe) body (tb W)) (hands : HdsAs X n (g₀ :: gs) l) :
    PS X (.Try body (g₀ :: gs) [] [] pos) (fun D σ H => tb (wManyAs X.K i Wout D l) D σ H) := by
  constructor
  intro pins s σ H D I hw
  have fr2 : X.A.frames = some (X.env :: X.outer) := by
    rw [I.ok.frames, stk]
  apply wpAny_Try_except
  let xe' : Value → Shared → Prop := fun e s₁ => wpAny (model X.prog X.w) X.A (noteFrame e X.env)
    (fun _ s₂ => wpAny (model X.prog X.w) X.A (setFlight e none) (fun _ s₃ => wpAny (model X.prog X.w) X.A (handleBy e X.env (g₀ :: gs)) (SP X pins D) X.xe s₃) X.xe s₂) X.xe s₁
  have caught : Takes (X.tr (X.pn ++ pins) xe') (wManyAs X.K i Wout D l) := by
    rintro u s' ⟨a, B, sI, pins', σ', H', cls, d, rfl, J1, nb, up, sky, na, os, ag, wish⟩
    have J := J1.ofTry I.ok
    have sky2 : Sky B (X.env :: X.outer) a (Zc cls d) X.env.locals s'.heap := by
      rw [← stk]
      exact sky
    show wpAny _ X.A (noteFrame (.ref a) X.env) _ _ _
    apply Sky.land Zc.steady fr2 frm sky2
    intro hA fly upA
    have JA : Inv X pins σ' H' { s' with heap := hA } := J.landed nb fly.1 (up.trans upA) os ag
    obtain ⟨oA, wA, getA, zA, dataA⟩ := fly.there
    have off : a ∉ frs (X.env :: X.outer) := by
      intro hm
      obtain ⟨_, o2, get2, nodata⟩ := fly.2.2.1.mem hm
      have same := get2.symm.trans getA
      cases same
      exact nodata _ dataA
    have offL : a ≠ X.env.locals := by
      intro z
      refine off (List.mem_filterMap.mpr ⟨X.env, List.mem_cons_self, ?_⟩)
      rw [frm, z]
    have offF : a ∉ X.fs := by
      intro hm
      obtain ⟨e, he, q⟩ := List.mem_filterMap.mp hm
      exact off (List.mem_filterMap.mpr ⟨e, List.mem_cons_of_mem _ he, q⟩)
    have SA := JA.suite getA dataA na offL offF
    suffices go : ∀ {hs : List ExceptHandler} {l' : List (Value × (Addr → Value → Option Addr → TS))}, HdsAs X n hs l' → wManyAs X.K i Wout D l' cls d σ' H' →
        wpAny (model X.prog X.w) X.A (handleBy (.ref a) X.env hs) (SP X pins D) X.xe { s' with heap := hA } from go hands wish
    intro hs l' hk
    induction hk with
    | nil =>
      intro wi
      apply wpAny_handleBy_nil
      obtain ⟨_, _, _, o5, w5, T5, oT5, t5, g5, z5, d5, e5, r5⟩ := id fly
      unfold PySem.passOn
      apply wpAny_bind
      refine wpAny_field g5 d5 e5 ?_
      rw [if_neg (show ¬ ((Value.ref T5 == Value.none) = true) by simp)]
      have leave : wpAny (model X.prog X.w) X.A (setFlight (.ref a) X.env.frame) (fun _ s4 => wpAny (model X.prog X.w) X.A (throw (.ref a) : Sem Flow) (SP X pins D) X.xe s4) X.xe { s' with heap := hA } := by
        rw [frm]
        refine HandSPX.setFlight_upZ fly fun hB heldB upB => ?_
        apply wpAny_throw
        exact out _ _ ⟨a, B, sI, pins, σ', H', cls, d, rfl, J, nb, (up.trans upA).trans upB, .inr (.inr (by rw [stk]; exact heldB)), na, os, ag, wi⟩
      first
        | exact wpAny_bind leave
        | exact wpAny_bind (wpAny_pure (wpAny_bind leave))
    | @cons x c ts st sts p1 p2 hs2 l2 hc hb r ih =>
      rintro ⟨b, isb, yes, no⟩
      refine wpAny_handleBy_cons (codeAny_handlers_test ?_) (by intro q; cases q)
      have lookT : PySem.W.Looks (model X.prog X.w) hA (typeOf (.ref a)) cls := by
        intro A' Q E s2 k q
        exact wpAny_typeOf_ref (k _ _ getA) (by rw [zA.1]; exact q)
      have lookM := PySem.W.exm_one (M := model X.prog X.w) JA.kIn lookT isb
      have named : ∀ {Q E : Value → Shared → Prop}, Q c { s' with heap := hA } → wpAny (model X.prog X.w) (X.A.mark (some (.ref a))) (eval (.Name x p1) X.env) Q E { s' with heap := hA } := by
        intro Q E q
        obtain ⟨gl, nd, hm⟩ := hc
        rcases hm with hm | ⟨hm, bv, nn⟩
        · exact ld_glob (X := X.suite a ((a, oA) :: (X.pn ++ pins))) SA gl hm q nd
        · exact ld_blt (X := X.suite a ((a, oA) :: (X.pn ++ pins))) SA gl hm bv q nn nd
      apply named
      apply lookM.here
      cases b with
      | false =>
        show wpAny _ X.A (handleBy (.ref a) X.env hs2) _ _ _
        exact ih (no rfl)
      | true =>
        apply codeAny_handlers_suite_as
        refine HandSPX.lands_againZ fly fun hC flyC upC => ?_
        have JC : Inv X pins σ' H' { s' with heap := hC } := J.landed nb flyC.1 ((up.trans upA).trans upC) os ag
        obtain ⟨oC, wC, getC, zC, dataC⟩ := flyC.there
        have SC := JC.suite getC dataC na offL offF
        refine store_ok (X := X.suite a ((a, oC) :: (X.pn ++ pins))) (v := .ref a) SC nodup at_i (.inl lcl) rfl (fun s5 S5 => ?_) (.inr lcl)
        refine wpAny_mono ((hb a oC cls d (X.pn ++ pins) zC ⟨_, dataC⟩).run [] s5 _ H' _ S5 (yes rfl a na)) (fun fl s6 hq => ?_) (fun _ _ z => z.elim)
        have fin : ∀ {σ6 : L2.St} {H6 : Hp} {Q : Shared → Prop}, Inv (X.suite a ((a, oC) :: (X.pn ++ pins))) [] σ6 H6 s6 → (∀ s7, Inv X pins (σ6.set i none) H6 s7 → Q s7) →
            wpAny (model X.prog X.w) X.A (do bindName X.env n .none; unbindBehindTheSuite X.env n p2) (fun _ s7 => Q s7) X.xe s6 := by
          intro σ6 H6 Q S6 q
          exact gone_ok (S6.unsuite I.ok) nodup at_i lcl q
        cases fl with
        | ret u =>
          obtain ⟨v6, σ6, H6, S6, r6, q6⟩ := hq
          exact fin S6 fun s7 J7 => ⟨_, _, _, J7, r6, q6⟩
        | next =>
          obtain ⟨σ6, H6, S6, q6⟩ := hq
          exact fin S6 fun s7 J7 => ⟨_, _, J7, q6⟩
        | brk =>
          obtain ⟨σ6, H6, S6, q6⟩ := hq
          exact fin S6 fun s7 J7 => ⟨_, _, J7, q6⟩
        | cont =>
          obtain ⟨σ6, H6, S6, q6⟩ := hq
          exact fin S6 fun s7 J7 => ⟨_, _, J7, q6⟩
  refine wpAny_mono ((hbody _ (X.pn ++ pins) xe' caught PassesOwn.looking).run [] s σ H D (I.toTry _) hw) (fun fl s1 hq => ?_) (fun _ _ he => he)
  cases fl with
  | ret u =>
    obtain ⟨v, σ', H', J', r', q⟩ := hq
    exact ⟨v, σ', H', J'.ofTry I.ok, r', q⟩
  | next =>
    obtain ⟨σ', H', J', q⟩ := hq
    exact wpAny_execs_nil ⟨σ', H', J'.ofTry I.ok, q⟩
  | brk =>
    obtain ⟨σ', H', J', q⟩ := hq
    exact ⟨σ', H', J'.ofTry I.ok, q⟩
  | cont =>
    obtain ⟨σ', H', J', q⟩ := hq
    exact ⟨σ', H', J'.ofTry I.ok, q⟩
end
/-! ### a def called with keywords (and perhaps positional values ahead), what leaves it wished for at the caller's slots -/
/-- what such a call binds, the parameters' order by a permutation of the values -/
structure KwB (K : PySem.W.Frag) (fd : FuncData) (ps : List Str) (n : Nat) (ks : List Str) (g : {α : Type} → List α → List α → List α) : Prop where
  to : ∀ (us ws : List Value), us.length = n → ws.length = ks.length → bindArgs fd ⟨us, ks.zip ws⟩ = pure (ps.zip (g us ws))
  rel : ∀ {vs : List V} {us : List Value} {zs : List V} {ws : List Value}, vs.length = n → zs.length = ks.length → Vals vs us → Vals zs ws → Vals (g vs zs) (g us ws)
def tCallKw (n m : Nat) (sp : Sp) (g : List V → List V → List V) (E : L2.St → XK) (t tk : TA) : TE := fun σ H Q => t σ H fun vs H1 => tk σ H1 fun zs H2 => vs.length = n ∧ zs.length = m ∧ sp (g vs zs) H2 Q (E σ)
section
variable {X : Cx} {CX : CXT} {k n : Nat} {f : Addr} {fd : FuncData} {ps ks : List Str} {sp : Sp} {E : L2.St → XK} {x : Str} {p pos : Pos} {e : Expr} {es : List Expr} {kws : List Keyword} {t tk : TA} {g : {α : Type} → List α → List α → List α}
theorem run_kw {pins : List (Addr × Obj)} {σ : L2.St} {H : Hp} {s : Shared} {Q : VK} {us ws : List Value} {vs zs : List V} (F : FnOk X.prog X.w X.K X.mg X.base CX k f fd ps sp) (room : Room k X.A) (bnd : KwB X.K fd ps n ks g) (px : PassesAt CX X σ (E σ))
    (I : Inv X pins σ H s) (rv : Vals vs us) (rz : Vals zs ws) (l1 : vs.length = n) (l2 : zs.length = ks.length) (hsp : sp (g vs zs) H Q (E σ)) : wpAny (model X.prog X.w) X.A (call (.ref f) us (ks.zip ws)) (EP X pins σ Q) X.xe s := by
  apply wpAny_call
  refine codeAny_mono (F.run X.A X.stack s H ⟨us, ks.zip ws⟩ (g us ws) (g vs zs) Q (E σ) room I.env0 (.of_eq (bnd.to us ws (rv.length.symm.trans l1) (rz.length.symm.trans l2))) (bnd.rel l1 l2 rv rz) hsp) fun r s' got => ?_
  match r, got with
  | .error er, got => exact px pins H s er s' I got
  | .ok (.ret u), got => exact I.after got
  | .ok .next, got => exact got.elim
  | .ok .brk, got => exact got.elim
  | .ok .cont, got => exact got.elim
/-- f(k = v, ..) -/
theorem pe_kw0 (F : FnOk X.prog X.w X.K X.mg X.base CX k f fd ps sp) (room : Room k X.A) (gl : Gl X x) (m : X.mg x = some (.ref f)) (kp : PySem.W.keepIn X.K (.ref f) = true) (bnd : KwB X.K fd ps 0 ks g) (px : ∀ σ, PassesAt CX X σ (E σ)) (kw : PK X kws tk)
    (h1 : (backToKw pos (keywordEach kws X.env)).all (·.1.isSome) = true := by rfl) (h2 : (backToKw pos (keywordEach kws X.env)).filterMap (·.1) = ks := by rfl) (h3 : (x == ("__debug__" : Str)) = false := by decide)
    (h4 : ((backTo pos (starEach [] X.env)).any (·.1) || (backToKw pos (keywordEach kws X.env)).any (·.1.isNone)) = false := by rfl) : PE X (.Call (.Name x p) [] kws pos) (tCallKw 0 ks.length sp g E tNil tk) := by
  constructor
  intro pins s σ H Q I h
  apply wpAny_Call_Name_kw
  refine ld_glob I gl m ?_ h3
  refine PySem.W.callWith_KW0 (h₀ := X.base) I.ok.mod.kin kp h1 ?_ h4
  refine thn (kw.run pos pins s σ H _ I h) fun ws s2 got => ?_
  obtain ⟨zs, H2, I2, rz, l1, l2, q2⟩ := got
  rw [h2]
  exact ⟨I2.kIn, run_kw (us := []) (vs := []) F room bnd (px σ) I2 .nil rz rfl l2 q2⟩
/-- f(e, .., k = v, ..) -/
theorem pe_kw (F : FnOk X.prog X.w X.K X.mg X.base CX k f fd ps sp) (room : Room k X.A) (gl : Gl X x) (m : X.mg x = some (.ref f)) (kp : PySem.W.keepIn X.K (.ref f) = true) (bnd : KwB X.K fd ps n ks g) (px : ∀ σ, PassesAt CX X σ (E σ)) (ha : PA X (e :: es) t) (kw : PK X kws tk)
    (h1 : (backToKw pos (keywordEach kws X.env)).all (·.1.isSome) = true := by rfl) (h2 : (backToKw pos (keywordEach kws X.env)).filterMap (·.1) = ks := by rfl) (h3 : (x == ("__debug__" : Str)) = false := by decide)
    (h5 : starEach (e :: es) X.env = (false, eval e X.env) :: starEach es X.env := by rfl) (h4 : ((backTo pos (starEach (e :: es) X.env)).any (·.1) || (backToKw pos (keywordEach kws X.env)).any (·.1.isNone)) = false := by rfl) :
    PE X (.Call (.Name x p) (e :: es) kws pos) (tCallKw n ks.length sp g E t tk) := by
  constructor
  intro pins s σ H Q I h
  apply wpAny_Call_Name_kw
  refine ld_glob I gl m ?_ h3
  refine PySem.W.callWith_KW (h₀ := X.base) I.ok.mod.kin kp h1 (thn (ha.run pos pins s σ H _ I h) fun us s1 got => ?_) h4 h5
  obtain ⟨vs, H1, I1, rv, q⟩ := got
  refine thn (kw.run pos pins s1 σ H1 _ I1 q) fun ws s2 got => ?_
  obtain ⟨zs, H2, I2, rz, l1, l2, q2⟩ := got
  rw [h2]
  exact ⟨I2.kIn, run_kw F room bnd (px σ) I2 rv rz l1 l2 q2⟩
theorem passAt_of {X : Cx} {CX : CXT} {E : XK} (h : Passes CX X E) (σ : L2.St) : PassesAt CX X σ E := fun pins H s e s' I c => h pins σ H s e s' I c
/-- in a def that lets exceptions out: what a callee lets out goes on -/
theorem passC {X : Cx} {E : XK} (tk : Takes X (fun cls d _ H => E cls d H)) : Passes (L2.CX X.prog X.w) X E := passes_call tk fun _ _ _ _ h => h
end
/-- the drawing box at p: three ints, drawn n times at most -/
def BoxAt (H : Hp) (p : Addr) (n : Nat) : Prop := ∃ d s c : Int, H p = some (.lst [.int d, .int s, .int c]) ∧ 0 ≤ d ∧ 0 ≤ s ∧ s < 2147483629 ∧ 0 ≤ c ∧ c ≤ n
/-- H0: all that is known beside the box -/
structure BoxIn (H0 H : Hp) (p : Addr) (n : Nat) : Prop where
  same : Same H0 H
  free : H0 p = none
  box : BoxAt H p n
theorem BoxAt.mono {H : Hp} {p : Addr} {n m : Nat} (b : BoxAt H p n) (h : n ≤ m) : BoxAt H p m := by
  obtain ⟨d, s, c, h1, h2, h3, h4, h5, h6⟩ := b
  exact ⟨d, s, c, h1, h2, h3, h4, h5, by omega⟩
theorem BoxIn.mono {H0 H : Hp} {p : Addr} {n m : Nat} (b : BoxIn H0 H p n) (h : n ≤ m) : BoxIn H0 H p m := ⟨b.same, b.free, b.box.mono h⟩
/-- a pure step behind it -/
theorem BoxIn.keep {H0 H H' : Hp} {p : Addr} {n : Nat} (b : BoxIn H0 H p n) (s : Same H H') : BoxIn H0 H' p n := by
  obtain ⟨d, s', c, h1, h⟩ := b.box
  exact ⟨b.same.trans s, b.free, d, s', c, s _ _ h1, h⟩
/-- a new object becomes known -/
theorem BoxIn.new {H0 H : Hp} {p q : Addr} {n : Nat} {o : HO} (b : BoxIn H0 H p n) (hq : H q = none) : BoxIn (upd H0 q o) (upd H q o) p n ∧ Same H0 (upd H0 q o) := by
  obtain ⟨d, s', c, h1, h⟩ := b.box
  have npq : p ≠ q := ne_of_none h1 hq
  refine ⟨⟨fun x u e => ?_, by rw [upd_ne npq]; exact b.free, d, s', c, by rw [upd_ne npq]; exact h1, h⟩, fun x u e => ?_⟩
  · by_cases hx : x = q
    · subst hx
      rw [upd_same] at e ⊢
      exact e
    · rw [upd_ne hx] at e ⊢
      exact b.same _ _ e
  · rw [upd_ne (ne_of_none e (b.same.free hq))]
    exact e
/-- all that is tracked now, the box aside, is known -/
def but (H : Hp) (p : Addr) : Hp := fun q => if q = p then none else H q
theorem but_same {H : Hp} {p : Addr} : but H p p = none := by unfold but; rw [if_pos rfl]
theorem but_ne {H : Hp} {p q : Addr} (h : q ≠ p) : but H p q = H q := by unfold but; rw [if_neg h]
theorem BoxIn.all {H0 H : Hp} {p : Addr} {n : Nat} (b : BoxIn H0 H p n) : BoxIn (but H p) H p n ∧ Same H0 (but H p) := by
  refine ⟨⟨fun x u e => ?_, but_same, b.box⟩, fun x u e => ?_⟩
  · by_cases hx : x = p
    · subst hx
      rw [but_same] at e
      cases e
    · rw [but_ne hx] at e
      exact e
  · have hx : x ≠ p := fun q => by
      rw [q, b.free] at e
      cases e
    rw [but_ne hx]
    exact b.same _ _ e

def sp_law_cell (K : PySem.W.Frag) : Sp := fun vs H Q _ => ∃ (a : Addr) (ns : List Int) (k : Int), vs = [.ref a, .int k] ∧ SqL K H a (ns.map V.int) ∧ 0 ≤ k ∧ ∀ z, Q (.int z) H
def sp_law_box : Sp := fun vs H Q _ => ∃ z : Int, vs = [.int z] ∧ ∀ p o, H p = none → BoxAt (upd H p o) p 0 → Q (.ref p) (upd H p o)
def sp_law_take : Sp := fun vs H Q _ => ∃ (H0 : Hp) (p : Addr) (n : Nat) (m : Int), vs = [.ref p, .int m] ∧ BoxIn H0 H p n ∧ n < 1000000 ∧ 0 < m ∧ m < 1000000 ∧
  ∀ (z : Int) (H' : Hp), 0 ≤ z → z < m → BoxIn H0 H' p (n + 1) → Q (.int z) H'
/-- what the law's promise is: a list of at most 63 ints is handed in, True comes out -/
def sp_law (K : PySem.W.Frag) : Sp := fun vs H Q _ => ∃ (a : Addr) (ns : List Int), vs = [.ref a] ∧ SqL K H a (ns.map V.int) ∧ ns.length ≤ 63 ∧ ∀ H', Q (.bl true) H'
/-! ### values as data -/
theorem same_t {K : PySem.W.Frag} {H H' : Hp} {a : Addr} {xs : List V} (e : Same H H') (h : SqT K H a xs) : SqT K H' a xs := by
  rcases h with (h | ⟨o, h⟩) | h
  · exact .inl (.inl (e _ _ h))
  · exact .inl (.inr ⟨o, e _ _ h⟩)
  · exact .inr h
mutual
theorem dp_mono {K : PySem.W.Frag} {H H' : Hp} (e : Same H H') : ∀ {v : V} {d : PyData}, Dp K H v d → Dp K H' v d
  | _, _, .non => .non
  | _, _, .bl b => .bl b
  | _, _, .int i => .int i
  | _, _, .str x => .str x
  | _, _, .lst h a => .lst (e.seq h) (dpAll_mono e a)
  | _, _, .tup h a => .tup (same_t e h) (dpAll_mono e a)
theorem dpAll_mono {K : PySem.W.Frag} {H H' : Hp} (e : Same H H') : ∀ {vs : List V} {ds : List PyData}, DpAll K H vs ds → DpAll K H' vs ds
  | _, _, .nil => .nil
  | _, _, .cons a b => .cons (dp_mono e a) (dpAll_mono e b)
end
theorem dpAll_get {K : PySem.W.Frag} {H : Hp} : ∀ {vs : List V} {ds : List PyData} {i : Nat} {v : V}, DpAll K H vs ds → vs[i]? = some v → ∃ d, ds[i]? = some d ∧ Dp K H v d
  | _, _, 0, _, .cons a _, h => ⟨_, rfl, by cases h; exact a⟩
  | _, _, i + 1, _, .cons _ b, h => dpAll_get (i := i) b h
theorem dpAll_len {K : PySem.W.Frag} {H : Hp} : ∀ {vs : List V} {ds : List PyData}, DpAll K H vs ds → vs.length = ds.length
  | _, _, .nil => rfl
  | _, _, .cons _ b => congrArg (· + 1) (dpAll_len b)
theorem dpAll_strs {K : PySem.W.Frag} {H : Hp} : ∀ ss : List Str, DpAll K H (ss.map V.str) (ss.map PyData.str)
  | [] => .nil
  | s :: r => .cons (.str s) (dpAll_strs r)
theorem dpAll_bls {K : PySem.W.Frag} {H : Hp} : ∀ bs : List Bool, DpAll K H (bs.map V.bl) (bs.map PyData.bool)
  | [] => .nil
  | b :: r => .cons (.bl b) (dpAll_bls r)
theorem eqv_nil (ds : List PyData) : PyData.eqv (.list ds) (.list []) = ds.isEmpty := by
  cases ds with
  | nil => simp [PyData.eqv, PyData.eqvAll]
  | cons d r => simp [PyData.eqv, PyData.eqvAll]
theorem shaped_nil : SeqAt.shaped (.list []) = true := by decide +kernel
theorem canAll_mem {ds : List PyData} : PyData.canLayAll0 ds = true ↔ ∀ d ∈ ds, d.canLay0 = true := by
  induction ds with
  | nil => simp [PyData.canLayAll0]
  | cons d r ih => simp [PyData.canLayAll0, ih]
theorem depthAll_le {ds : List PyData} {n : Nat} (h : ∀ d ∈ ds, d.depth ≤ n) : PyData.depthAll ds ≤ n := by
  induction ds with
  | nil => simp [PyData.depthAll]
  | cons d r ih =>
    have h1 := h d (List.mem_cons_self)
    have h2 := ih fun x hx => h x (List.mem_cons_of_mem _ hx)
    simp only [PyData.depthAll]
    omega
theorem depthAll_mem {ds : List PyData} {d : PyData} (h : d ∈ ds) : d.depth ≤ PyData.depthAll ds := by
  induction ds with
  | nil => cases h
  | cons e r ih =>
    simp only [PyData.depthAll]
    rcases List.mem_cons.mp h with rfl | h
    · omega
    · have := ih h
      omega
theorem shaped_iff {d : PyData} : SeqAt.shaped d = true ↔ d.canLay0 = true ∧ d.depth ≤ 64 := by
  unfold SeqAt.shaped
  rw [Bool.and_eq_true, decide_eq_true_iff]
/-- a list of data that are d deep at most -/
theorem shaped_list {ds : List PyData} {n : Nat} (hn : n < 64) (h : ∀ d ∈ ds, d.canLay0 = true ∧ d.depth ≤ n) : SeqAt.shaped (.list ds) = true := by
  refine shaped_iff.mpr ⟨?_, ?_⟩
  · simp only [PyData.canLay0]
    exact canAll_mem.mpr fun d hd => (h d hd).1
  · have := depthAll_le fun d hd => (h d hd).2
    simp only [PyData.depth]
    omega
theorem shaped_of_tuple {ds : List PyData} (h : SeqAt.shaped (.tuple ds) = true) {d : PyData} (hd : d ∈ ds) : d.canLay0 = true ∧ d.depth ≤ 63 := by
  obtain ⟨h1, h2⟩ := shaped_iff.mp h
  simp only [PyData.canLay0] at h1
  simp only [PyData.depth] at h2
  have := depthAll_mem hd
  exact ⟨canAll_mem.mp h1 d hd, by omega⟩
/-- a value and what it is: data of any depth, or a dict (none) -/
inductive VD (K : PySem.W.Frag) (H : Hp) : V → Option PyData → Prop where
  | dat {v : V} {d : PyData} : Dp K H v d → SeqAt.shaped d = true → (∀ s, d = .str s → s.length ≤ 1000) → VD K H v (some d)
  | dic {a : Addr} {kvs : List (Key × V)} : H a = some (.dK kvs) → VD K H (.ref a) none
theorem VD.mono {K : PySem.W.Frag} {H H' : Hp} (e : Same H H') {v : V} {o : Option PyData} (h : VD K H v o) : VD K H' v o := by
  cases h with
  | dat a b c => exact .dat (dp_mono e a) b c
  | dic a => exact .dic (e _ _ a)
def tyD : PyData → String
  | .none => "NoneType" | .bool _ => "bool" | .int _ => "int" | .str _ => "str" | .list _ => "list" | .tuple _ => "tuple" | .dict _ => "dict"
def tyO : Option PyData → String
  | none => "dict"
  | some d => tyD d
theorem dp_ty {K : PySem.W.Frag} {H : Hp} {v : V} {d : PyData} (h : Dp K H v d) : TyX K H v (.type (tyD d)) := by
  cases h with
  | non => exact .base .non
  | bl b => exact .base (.bl b)
  | int i => exact .base (.int i)
  | str x => exact .base (.str x)
  | lst h _ =>
    rcases h with (h | ⟨o, h⟩) | ⟨o, its, n, h, c, _⟩
    · exact .base (.lst h)
    · exact .base (.frz h)
    · exact .kList h c
  | tup h _ =>
    rcases h with (h | ⟨o, h⟩) | ⟨o, its, n, h, c, _⟩
    · exact .base (.tup h)
    · exact .fTuple h
    · exact .kTuple h c
theorem VD.ty {K : PySem.W.Frag} {H : Hp} {v : V} {o : Option PyData} (h : VD K H v o) : TyX K H v (.type (tyO o)) := by
  cases h with
  | dat a _ _ => exact dp_ty a
  | dic a => exact .base (.dK a)
def isT (T : String) (o : Option PyData) : Bool := tyO o == T || (T == "int" && tyO o == "bool")
theorem tyO_mem (o : Option PyData) : tyO o = "NoneType" ∨ tyO o = "bool" ∨ tyO o = "int" ∨ tyO o = "str" ∨ tyO o = "list" ∨ tyO o = "tuple" ∨ tyO o = "dict" := by
  rcases o with _ | d
  · simp [tyO]
  · cases d <;> simp [tyO, tyD]
theorem kit_o {K : PySem.W.Frag} (o : Option PyData) {T : String} (hT : T = "int" ∨ T = "bool" ∨ T = "str" ∨ T = "tuple") : PySem.W.kitOne K (.type (tyO o)) (.type T) = some (isT T o) := by
  have h := tyO_mem o
  unfold isT
  generalize tyO o = nm at h ⊢
  rcases hT with rfl | rfl | rfl | rfl
  all_goals
    rcases h with rfl | rfl | rfl | rfl | rfl | rfl | rfl
    all_goals exact kit_ty (by decide +kernel)
def nonO : Option PyData → Bool
  | some .none => true
  | _ => false
theorem vd_non {K : PySem.W.Frag} {H : Hp} {v : V} {o : Option PyData} (h : VD K H v o) : decide (v = .non) = nonO o := by
  cases h with
  | dat a _ _ => cases a <;> rfl
  | dic a => rfl
theorem iteFe {c : Bool} {A B : Prop} (h : c = false) (q : B) : if c = true then A else B := by
  subst h
  exact iteF q
theorem iteTe {c : Bool} {A B : Prop} (h : c = true) (q : A) : if c = true then A else B := by
  subst h
  exact iteT q
theorem tyes {te : TE} {σ : L2.St} {H : Hp} {R : V → Hp → Prop} {S : Hp → Prop} (h : te σ H R) : tYes σ H (fun b H3 => if b = true then te σ H3 R else S H3) := by
  show (if true = true then te σ H R else S H)
  exact iteT h
/-! ### comprehensions that change nothing: acc i is what is made behind i turns -/
theorem lc_acc {J : It} {n : Nat} {G : Hp → Prop} {item : Nat → V → Prop} {g : TG} {tt : TT} {te : TE} {vs : List Nat} {σ : L2.St} {H1 : Hp} {D : Addr} {Qd : Hp → Prop} (w : Walk J n G (fun i H x H' => H' = H ∧ item i x)) (hD : H1 D = none) (hG : ∀ H, Same H1 H → G H) (acc : Nat → List V) (h0 : acc 0 = []) (hz : ∀ i, i < n → (acc i).length < sizeLine)
    (hs : ∀ (i : Nat) (x : V) (H : Hp), i < n → item i x → Same H1 H → ∀ (R : V → Hp → Prop) (S : Hp → Prop), (∀ y H4, acc (i + 1) = acc i ++ [y] → Same H H4 → R y H4) → (∀ H3, acc (i + 1) = acc i → Same H H3 → S H3) →
      g x (wipe σ vs) H fun σ2 H2 => wipe σ2 vs = wipe σ vs ∧ tt σ2 H2 fun b H3 => if b = true then te σ2 H3 R else S H3)
    (hd : ∀ H, Same H1 H → H D = some (.lst (acc n)) → Qd H) : ∃ W : Nat → Nat → Hp → Prop, (∃ m, W 0 m (upd H1 D (.lst []))) ∧ ∀ i m H, W i m H →
      (J.stop i H ∧ Qd H) ∨ (J.go i H ∧ ∃ Nx : Hp → Prop, (∀ H', Nx H' → ∃ m', m' < m ∧ W (i + 1) m' H') ∧ ∀ x H', J.yld i H x H' → g x (wipe σ vs) H' fun σ2 H2 => wipe σ2 vs = wipe σ vs ∧ tt σ2 H2 fun b H3 =>
        if b = true then te σ2 H3 fun y H4 => ∃ acc, H4 D = some (.lst acc) ∧ acc.length < sizeLine ∧ Nx (upd H4 D (.lst (acc ++ [y]))) else Nx H3) := by
  refine lc_it w (fun i H => Same H1 H ∧ H D = some (.lst (acc i))) ⟨fun b o e => ?_, ?_⟩ (fun i H _ p => hG H p.1) ?_ (fun H p => hd H p.1 p.2)
  · rw [upd_ne (ne_of_none e hD)]
    exact e
  · rw [upd_same, h0]
  · rintro i x H H' hi ⟨s1, hl⟩ ⟨rfl, hx⟩
    refine hs i x _ hi hx s1 _ _ (fun y H4 e s2 => ⟨acc i, s2 _ _ hl, hz i hi, ⟨fun b o eb => ?_, by rw [upd_same, e]⟩⟩) (fun H3 e s2 => ⟨s1.trans s2, by rw [e]; exact s2 _ _ hl⟩)
    rw [upd_ne (ne_of_none eb hD)]
    exact s2 _ _ (s1 _ _ eb)
/-! ### texts and their bounds -/
theorem same_new {H : Hp} {q : Addr} {o : HO} (h : H q = none) : Same H (upd H q o) := fun b u e => by
  rw [upd_ne (ne_of_none e h)]
  exact e
/-- at most n signs, all of them signs -/
def sOk (n : Nat) (s : Str) : Prop := s.length ≤ n ∧ PyData.strOk s = true
theorem strOk_iff {s : Str} : PyData.strOk s = true ↔ ∀ c ∈ s.cps.toList, c < 0x110000 := by
  unfold PyData.strOk
  rw [Array.all_eq_true']
  constructor
  · intro h c hc
    exact of_decide_eq_true (h c (by simpa using hc))
  · intro h c hc
    exact decide_eq_true (h c (by simpa using hc))
theorem sOk.mono {n m : Nat} {s : Str} (h : sOk n s) (e : n ≤ m) : sOk m s := ⟨Nat.le_trans h.1 e, h.2⟩
theorem sOk.app {n m : Nat} {a b : Str} (h : sOk n a) (k : sOk m b) : sOk (n + m) (a ++ b) := by
  refine ⟨?_, strOk_iff.mpr fun c hc => ?_⟩
  · rw [Str.length_append]
    exact Nat.add_le_add h.1 k.1
  · rw [Str.cps_append, Array.toList_append] at hc
    rcases List.mem_append.mp hc with q | q
    · exact strOk_iff.mp h.2 c q
    · exact strOk_iff.mp k.2 c q
theorem sOk.cut {n : Nat} {a : Str} (h : sOk n a) (lo hi : Option Int) : sOk n (cutS a lo hi) := by
  refine ⟨Nat.le_trans (cutS_length _ _ _) h.1, strOk_iff.mpr fun c hc => ?_⟩
  unfold cutS at hc
  have hc' : c ∈ a.cps.toList := List.mem_of_mem_drop (List.mem_of_mem_take (by simpa using hc))
  exact strOk_iff.mp h.2 c hc'
theorem joinL_nil : ∀ ps : List (List Nat), TL.joinL [] ps = ps.flatten
  | [] => rfl
  | [p] => by simp [TL.joinL]
  | p :: q :: r => by
    have ih := joinL_nil (q :: r)
    simp only [TL.joinL, ih]
    simp
theorem flat_len : ∀ (ys : List Str) (n : Nat), (∀ y ∈ ys, y.length ≤ n) → ((ys.map TL.tl).flatten).length ≤ ys.length * n
  | [], _, _ => by simp
  | y :: r, n, h => by
    have ih := flat_len r n fun z hz => h z (List.mem_cons_of_mem _ hz)
    have h1 : y.length ≤ n := h y List.mem_cons_self
    have h2 : (TL.tl y).length = y.length := by simp [TL.tl, Str.length]
    simp only [List.map_cons, List.flatten_cons, List.length_append, List.length_cons, Nat.add_mul, Nat.one_mul]
    omega
theorem join_ok {ys : List Str} {n : Nat} (h : ∀ y ∈ ys, sOk n y) : sOk (ys.length * n) (Txt.join Str.empty ys) := by
  have e : TL.tl (Txt.join Str.empty ys) = (ys.map TL.tl).flatten := by
    rw [TL.join_eq, TL.tl_join]
    exact joinL_nil _
  refine ⟨?_, strOk_iff.mpr fun c hc => ?_⟩
  · have h1 : (Txt.join Str.empty ys).length = (TL.tl (Txt.join Str.empty ys)).length := by simp [TL.tl, Str.length]
    rw [h1, e]
    exact flat_len ys n fun y hy => (h y hy).1
  · have hc' : c ∈ TL.tl (Txt.join Str.empty ys) := hc
    rw [e] at hc'
    obtain ⟨l, hl, hcl⟩ := List.mem_flatten.mp hc'
    obtain ⟨y, hy, rfl⟩ := List.mem_map.mp hl
    exact strOk_iff.mp (h y hy).2 c hcl
theorem sum_le : ∀ (ys : List Str) (n : Nat), (∀ y ∈ ys, y.length ≤ n) → (ys.map (·.length)).sum ≤ ys.length * n
  | [], _, _ => by simp
  | y :: r, n, h => by
    have ih := sum_le r n fun z hz => h z (List.mem_cons_of_mem _ hz)
    have h1 : y.length ≤ n := h y List.mem_cons_self
    simp only [List.map_cons, List.sum_cons, List.length_cons, Nat.add_mul, Nat.one_mul]
    omega
/-- an item at an open place within -/
theorem atI_in {α : Type} {xs : List α} {z : Int} (h0 : 0 ≤ z) (h1 : z < xs.length) : ∃ v, atI xs z = some v ∧ v ∈ xs := by
  obtain ⟨j, rfl⟩ := Int.eq_ofNat_of_zero_le h0
  have hj : j < xs.length := by omega
  exact ⟨xs[j], atI_nat (List.getElem?_eq_getElem hj), List.getElem_mem hj⟩
theorem op_mul_str {X : Cx} : OpR X (binaryOp .Mult) (fun x y H Q => ∃ z n, x = .str z ∧ y = .int n ∧ MulOk z n ∧ Q (.str (Txt.mul z n)) H) := by
  intro pins s σ H x y v u Q I rx ry h
  obtain ⟨z, n, rfl, rfl, hz, q⟩ := h
  obtain ⟨t, rfl⟩ := rx
  obtain ⟨t', rfl⟩ := ry
  exact SB.mul hz fun t' tk => ⟨.str (Txt.mul z n), H, I.tok _, ⟨_, rfl⟩, q⟩
theorem BoxIn.low {H0 H1 H : Hp} {p : Addr} {n : Nat} (b : BoxIn H1 H p n) (s : Same H0 H1) : BoxIn H0 H p n := ⟨s.trans b.same, s.free b.free, b.box⟩
theorem BoxIn.mut {H0 H : Hp} {p D : Addr} {n : Nat} {o : HO} (b : BoxIn H0 H p n) (h1 : D ≠ p) (h2 : H0 D = none) : BoxIn H0 (upd H D o) p n := by
  obtain ⟨d, s', c, h, hh⟩ := b.box
  refine ⟨fun x u e => ?_, b.free, d, s', c, by rw [upd_ne h1.symm]; exact h, hh⟩
  rw [upd_ne (ne_of_none e h2)]
  exact b.same _ _ e
/-- what a def draws: Good of the value, with what is known then -/
def sp_draw (c : Nat) (Good : Hp → V → Prop) : Sp := fun vs H Q _ => ∃ (H0 : Hp) (p : Addr) (n : Nat), vs = [.ref p] ∧ BoxIn H0 H p n ∧ n + c < 1000000 ∧ ∀ (H1 H' : Hp) (v : V), Same H0 H1 → BoxIn H1 H' p (n + c) → Good H1 v → Q v H'
/-! ### the mirror -/
def intO (o : Option PyData) : Bool := isT "int" o && !isT "bool" o
def limO (o : Option PyData) : Bool := nonO o || intO o
def okSign (c : Nat) : Bool := !decide (([c] : List Nat) < [97]) && !decide (([122] : List Nat) < [c])
def nameS (s : Str) : Bool := !(s == ("table" : Str)) && (decide ((1 : Int) ≤ s.length) && (decide ((s.length : Int) ≤ 8) && s.cps.toList.all okSign))
def nameO : Option PyData → Bool
  | some (.str s) => nameS s
  | _ => false
def ltO : PyData → PyData → Bool
  | .int i, .int j => decide (i < j)
  | _, _ => true
def spanO : Option PyData → Bool
  | some (.tuple [l, h]) => limO (some l) && (limO (some h) && ltO l h)
  | _ => false
theorem spanO_no {ds : List PyData} (h : ds.length ≠ 2) : spanO (some (.tuple ds)) = false := by
  match ds, h with
  | [], _ => rfl
  | [_], _ => rfl
  | [_, _], hl => exact absurd rfl hl
  | _ :: _ :: _ :: _, _ => rfl
theorem dp_two {K : PySem.W.Frag} {H : Hp} {xs : List V} {ds : List PyData} (h : DpAll K H xs ds) (e : xs.length = 2) : ∃ x y d e, xs = [x, y] ∧ ds = [d, e] ∧ Dp K H x d ∧ Dp K H y e := by
  match xs, ds, h, e with
  | [x, y], [d, e], .cons h1 (.cons h2 .nil), _ => exact ⟨x, y, d, e, rfl, rfl, h1, h2⟩
theorem spanO_ty {o : Option PyData} (e : isT "tuple" o = false) : spanO o = false := by
  rcases o with _ | d
  · rfl
  · cases d with
    | tuple s => cases e
    | _ => rfl
theorem nameO_no {o : Option PyData} (e : isT "str" o = false) : nameO o = false := by
  rcases o with _ | d
  · rfl
  · cases d with
    | str s => cases e
    | _ => rfl
theorem VD.str_of {K : PySem.W.Frag} {H : Hp} {v : V} {o : Option PyData} (hv : VD K H v o) (e : isT "str" o = true) : ∃ s, v = .str s ∧ o = some (.str s) ∧ s.length ≤ 1000 ∧ PyData.strOk s = true := by
  cases hv with
  | dat a b c =>
    cases a with
    | str s =>
      have := (shaped_iff.mp b).1
      simp only [PyData.canLay0] at this
      exact ⟨s, rfl, rfl, c s rfl, this⟩
    | _ => cases e
  | dic a => cases e
theorem VD.tup_of {K : PySem.W.Frag} {H : Hp} {v : V} {o : Option PyData} (hv : VD K H v o) (e : isT "tuple" o = true) : ∃ a xs ds, v = .ref a ∧ o = some (.tuple ds) ∧ SqT K H a xs ∧ DpAll K H xs ds ∧ SeqAt.shaped (.tuple ds) = true := by
  cases hv with
  | dat a b c =>
    cases a with
    | tup h1 h2 => exact ⟨_, _, _, rfl, rfl, h1, h2, b⟩
    | _ => cases e
  | dic a => cases e
theorem strOk_mem {s : Str} (h : PyData.strOk s = true) {c : Nat} (hc : c ∈ s.cps.toList) : c < 0x110000 := by
  unfold PyData.strOk at h
  rw [Array.all_eq_true'] at h
  exact of_decide_eq_true (h c (by simpa using hc))
theorem strOk_sign {c : Nat} (h : c < 0x110000) : PyData.strOk ⟨#[c]⟩ = true := by
  unfold PyData.strOk
  simp
  omega
/-- the values that are no limits -/
def filt : List V → List PyData → List V
  | x :: xs, d :: ds => if limO (some d) = true then filt xs ds else x :: filt xs ds
  | _, _ => []
theorem filt_len : ∀ (xs : List V) (ds : List PyData), (filt xs ds).length ≤ xs.length
  | [], _ => by simp [filt]
  | _ :: _, [] => by simp [filt]
  | x :: xs, d :: ds => by
    have ih := filt_len xs ds
    simp only [filt]
    split
    · simp only [List.length_cons]
      omega
    · simp only [List.length_cons]
      omega
theorem filt_step : ∀ {xs : List V} {ds : List PyData} {i : Nat} {x : V} {d : PyData}, xs[i]? = some x → ds[i]? = some d → filt (xs.take (i + 1)) (ds.take (i + 1)) = if limO (some d) = true then filt (xs.take i) (ds.take i) else filt (xs.take i) (ds.take i) ++ [x]
  | [], _, _, _, _, h, _ => by simp at h
  | _ :: _, [], _, _, _, _, h => by simp at h
  | y :: ys, e :: es, 0, x, d, h1, h2 => by
    cases h1
    cases h2
    simp [filt]
  | y :: ys, e :: es, i + 1, x, d, h1, h2 => by
    have ih := filt_step (xs := ys) (ds := es) (i := i) (x := x) (d := d) (by simpa using h1) (by simpa using h2)
    simp only [List.take_succ_cons, filt, ih]
    split <;> split <;> simp
theorem filt_dp {K : PySem.W.Frag} {H : Hp} : ∀ {xs : List V} {ds : List PyData}, DpAll K H xs ds → DpAll K H (filt xs ds) (ds.filter fun d => !limO (some d))
  | _, _, .nil => by simp [filt]; exact .nil
  | _, _, .cons (v := v) (d := d) a b => by
    have ih := filt_dp b
    simp only [filt]
    cases h : limO (some d) with
    | true =>
      simp [h]
      exact ih
    | false =>
      simp [h]
      exact .cons a ih
theorem okSign_is (c : Nat) : okSign c = decide (c ∈ ("abcdefghijklmnopqrstuvwxyz" : Str).cps.toList) := by
  have e : ("abcdefghijklmnopqrstuvwxyz" : Str).cps.toList = [97, 98, 99, 100, 101, 102, 103, 104, 105, 106, 107, 108, 109, 110, 111, 112, 113, 114, 115, 116, 117, 118, 119, 120, 121, 122] := by decide +kernel
  rw [e]
  unfold okSign
  rw [Bool.eq_iff_iff, Bool.and_eq_true, decide_eq_true_iff, Bool.not_eq_true', Bool.not_eq_true', decide_eq_false_iff_not, decide_eq_false_iff_not]
  simp only [List.cons_lt_cons_iff, List.not_lt_nil, and_false, or_false, List.mem_cons, List.not_mem_nil]
  omega
def sp_v1 (K : PySem.W.Frag) (f : Option PyData → Bool) : Sp := fun vs H Q _ => ∃ (v : V) (o : Option PyData), vs = [v] ∧ VD K H v o ∧ ∀ H', Same H H' → Q (.bl (f o)) H'
/-- the same without a word on the heap: nothing is made -/
def sp_v0 (K : PySem.W.Frag) (f : Option PyData → Bool) : Sp := fun vs H Q _ => ∃ (v : V) (d : PyData), vs = [v] ∧ Dp K H v d ∧ Q (.bl (f (some d))) H
def sp_vO (K : PySem.W.Frag) (f : Option PyData → Bool) : Sp := fun vs H Q _ => ∃ (v : V) (o : Option PyData), vs = [v] ∧ TyX K H v (.type (tyO o)) ∧ decide (v = .non) = nonO o ∧ Q (.bl (f o)) H
theorem dp_vO {K : PySem.W.Frag} {H : Hp} {v : V} {d : PyData} (h : Dp K H v d) : TyX K H v (.type (tyO (some d))) ∧ decide (v = .non) = nonO (some d) := by
  refine ⟨dp_ty h, ?_⟩
  cases h <;> rfl
theorem vd_vO {K : PySem.W.Frag} {H : Hp} {v : V} {o : Option PyData} (h : VD K H v o) : TyX K H v (.type (tyO o)) ∧ decide (v = .non) = nonO o := ⟨h.ty, vd_non h⟩
/-! ### what is raised -/
/-- an exception of the class at C leaves, with v as its field f -/
def Rz (H : Hp) (E : XK) (C : Addr) (f : Str) (v : V) : Prop := ∀ (d : Addr) (H' : Hp), H d = none → H' d = some (.xd [(f, v)]) → Same H H' → E (.ref C) (some d) H'
theorem Rz.back {H H1 : Hp} {E : XK} {C : Addr} {f : Str} {v : V} (s : Same H H1) (h : Rz H E C f v) : Rz H1 E C f v := fun d H' n x k => h d H' (s.free n) x (s.trans k)
/-- X.__init__: the one field -/
def sp_xinit (K : PySem.W.Frag) (C : Addr) (f : Str) : Sp := fun vs H Q _ => ∃ (a : Addr) (v : V), vs = [.ref a, v] ∧ OexC K C ∧ PySem.W.findIn K (.ref C) f = some none ∧ H a = some (exo a C none) ∧ ∀ dx, H dx = none → dx ≠ a → Q .non (upd (upd H dx (exd dx [(f, v)])) a (exo a C (some dx)))
/-- the reading of «raise X(v)» -/
theorem raise_x {K : PySem.W.Frag} {H : Hp} {E : XK} {C : Addr} {f : Str} {v : V} (x : OexC K C) (n : PySem.W.findIn K (.ref C) f = some none) (h : Rz H E C f v) : ([v] : List V).length ≤ 1000 ∧ ∀ a, H a = none → sp_xinit K C f (.ref a :: ([v] ++ [])) (upd H a (exo a C none))
    (fun v' H2 => v' = .non ∧ ∃ (d : Addr) (fs : List (Str × V)), H2 a = some (exo a C (some d)) ∧ H2 d = some (exd d fs) ∧ H d = none ∧ E (.ref C) (some d) (upd (del H2 a) d (.xd fs))) (fun _ _ _ => False) := by
  refine ⟨by show 1 ≤ 1000; decide, fun a ha => ⟨a, v, rfl, x, n, upd_same, fun dx hdx ne => ⟨rfl, dx, [(f, v)], upd_same, by rw [upd_ne ne, upd_same], ?_, ?_⟩⟩⟩
  · rw [upd_ne ne] at hdx
    exact hdx
  · rw [upd_ne ne] at hdx
    refine h dx _ hdx upd_same fun b o e => ?_
    have nb : b ≠ a := ne_of_none e ha
    have nd : b ≠ dx := ne_of_none e hdx
    rw [upd_ne nd, del_ne nb, upd_ne nb, upd_ne nd, upd_ne nb]
    exact e
/-! ### x in t, t a tuple, data of any depth -/
section
variable {X : Cx}
def rInT (K : PySem.W.Frag) : R2 := fun x y H Q => ∃ d ds, Dp K H x d ∧ Dp K H y (.tuple ds) ∧ SeqAt.shaped d = true ∧ SeqAt.shaped (.tuple ds) = true ∧ Q (.bl (ds.any fun z => PyData.eqv z d)) H
theorem op_inT (hu : X.A.units + 65 < cLine) : OpR X (compareOp .In) (rInT X.K) := by
  intro pins s σ H x y v u Q I rx ry h
  obtain ⟨d, ds, hd, he, sd, se, q⟩ := h
  obtain ⟨as, r1⟩ := Dp.reads I d x v hd rx
  obtain ⟨bs, r2⟩ := Dp.reads I (.tuple ds) y u he ry
  exact SeqAt.in_tuple_reads r2 r1 (SeqAt.canLay_of_shaped se) (SeqAt.canLay_of_shaped sd) (PyProof.Rows.room_in_shaped sd hu) ⟨.bl _, H, I, rfl, q⟩
end
/-! ### what stands written at the top: tuples of texts, dicts of such -/
def seqK (K : PySem.W.Frag) (a : Addr) : Option (List Value) := match K.lookup a with
  | some ⟨.type c, _, .seq its _, _⟩ => if (c == "tuple" && decide (its.size ≤ 1000)) = true then some its.toList else none
  | _ => none
def mapO {α β : Type} (f : α → Option β) : List α → Option (List β)
  | [] => some []
  | x :: r => (f x).bind fun y => (mapO f r).bind fun ys => some (y :: ys)
def datK (K : PySem.W.Frag) : Nat → Value → Option PyData
  | n, .str x _ => some (.str x)
  | n + 1, .ref a => (seqK K a).bind fun us => (mapO (datK K n) us).bind fun ds => some (.tuple ds)
  | _, _ => none
def nsD (K : PySem.W.Frag) (a : Addr) (x : Str) : Option PyData := match PySem.W.nsIn K a x with
  | some (some u) => datK K 4 u
  | _ => none
theorem seqK_ok {K : PySem.W.Frag} {a : Addr} {us : List Value} {xs : List V} (h : seqK K a = some us) (r : Vals xs us) (H : Hp) : SqT K H a xs := by
  unfold seqK at h
  split at h
  · rename_i c dd its n sl q
    split at h
    · rename_i z
      rw [Bool.and_eq_true] at z
      have e1 : c = "tuple" := of_decide_eq_true (by simpa using z.1)
      have e2 := of_decide_eq_true z.2
      have e3 : its.toList = us := Option.some.inj h
      subst e1 e3
      exact .inr ⟨_, its, n, q, rfl, rfl, Nat.le_trans e2 (by decide), r⟩
    · cases h
  · cases h
mutual
theorem datK_ok {K : PySem.W.Frag} : ∀ (n : Nat) {u : Value} {d : PyData}, datK K n u = some d → ∃ v, RelV v u ∧ ∀ H, Dp K H v d
  | 0, .str x t, d, h => by
    have e : PyData.str x = d := Option.some.inj (by simpa [datK] using h)
    subst e
    exact ⟨.str x, ⟨t, rfl⟩, fun H => .str x⟩
  | n + 1, .str x t, d, h => by
    have e : PyData.str x = d := Option.some.inj (by simpa [datK] using h)
    subst e
    exact ⟨.str x, ⟨t, rfl⟩, fun H => .str x⟩
  | n + 1, .ref a, d, h => by
    have h' : ((seqK K a).bind fun us => (mapO (datK K n) us).bind fun ds => some (.tuple ds)) = some d := by simpa [datK] using h
    cases e1 : seqK K a with
    | none => rw [e1] at h'; cases h'
    | some us =>
      rw [e1, Option.bind_some] at h'
      cases e2 : mapO (datK K n) us with
      | none => rw [e2] at h'; cases h'
      | some ds =>
        rw [e2, Option.bind_some] at h'
        have e3 : PyData.tuple ds = d := Option.some.inj h'
        subst e3
        obtain ⟨vs, r, q⟩ := datsK_ok n us e2
        exact ⟨.ref a, rfl, fun H => .tup (seqK_ok e1 r H) (q H)⟩
theorem datsK_ok {K : PySem.W.Frag} : ∀ (n : Nat) (us : List Value) {ds : List PyData}, mapO (datK K n) us = some ds → ∃ vs, Vals vs us ∧ ∀ H, DpAll K H vs ds
  | n, [], ds, h => by
    have e : [] = ds := Option.some.inj h
    subst e
    exact ⟨[], .nil, fun H => .nil⟩
  | n, u :: r, ds, h => by
    have h' : ((datK K n u).bind fun y => (mapO (datK K n) r).bind fun ys => some (y :: ys)) = some ds := h
    cases e1 : datK K n u with
    | none => rw [e1] at h'; cases h'
    | some d =>
      rw [e1, Option.bind_some] at h'
      cases e2 : mapO (datK K n) r with
      | none => rw [e2] at h'; cases h'
      | some es =>
        rw [e2, Option.bind_some] at h'
        have e3 : d :: es = ds := Option.some.inj h'
        subst e3
        obtain ⟨v, rv, qv⟩ := datK_ok n e1
        obtain ⟨vs, rvs, qvs⟩ := datsK_ok n r e2
        exact ⟨v :: vs, .cons rv rvs, fun H => .cons (qv H) (qvs H)⟩
end
/-- an item of a dict of the top -/
theorem nsD_ok {K : PySem.W.Frag} {w : World} {a : Addr} {tb : List (Str × PyData)} (l : ∃ es n, K.lookup a = some ⟨.type "dict", none, .dict es n, #[]⟩ ∧ PySem.W.KeysLit w.params es.toList) (h : tb.map (fun p => nsD K a p.1) = tb.map fun p => some p.2)
    {x : Str} {d : PyData} (m : (x, d) ∈ tb) : ∃ v, KDct K w a x v ∧ ∀ H, Dp K H v d := by
  have e : nsD K a x = some d := by
    have : ∀ {l : List (Str × PyData)}, l.map (fun p => nsD K a p.1) = l.map (fun p => some p.2) → (x, d) ∈ l → nsD K a x = some d := by
      intro l
      induction l with
      | nil => intro _ m; cases m
      | cons p r ih =>
        intro hl m
        rw [List.map_cons, List.map_cons] at hl
        injection hl with h1 h2
        rcases List.mem_cons.mp m with q | q
        · subst q; exact h1
        · exact ih h2 q
    exact this h m
  obtain ⟨es, n, hl, hk⟩ := l
  unfold nsD at e
  split at e
  · rename_i u q
    obtain ⟨v, rv, qv⟩ := datK_ok 4 e
    exact ⟨v, ⟨es, n, u, hl, hk, q, rv⟩, qv⟩
  · cases e
theorem relref {v : V} {a : Addr} (h : RelV v (.ref a)) : v = .ref a := by
  cases v with
  | ref b => cases h; rfl
  | _ => first | cases h; done | exact (by obtain ⟨_, h⟩ := h; exact absurd h (by simp))
theorem u65 {A : Around} {k : Nat} (hr : Room k A) : A.units + 65 < cLine := by
  have := hr.un
  omega
theorem dp_three {K : PySem.W.Frag} {H : Hp} {xs : List V} {ds : List PyData} (h : DpAll K H xs ds) (e : xs.length = 3) : ∃ x y z d e f, xs = [x, y, z] ∧ ds = [d, e, f] ∧ Dp K H x d ∧ Dp K H y e ∧ Dp K H z f := by
  match xs, ds, h, e with
  | [x, y, z], [d, e, f], .cons h1 (.cons h2 (.cons h3 .nil)), _ => exact ⟨x, y, z, d, e, f, rfl, rfl, h1, h2, h3⟩
/-! ### names drawn -/
/-- the items of l, in another order -/
def sp_mixed : Sp := fun vs H Q _ => ∃ (H0 : Hp) (p l : Addr) (n : Nat) (xs : List V), vs = [.ref p, .ref l] ∧ BoxIn H0 H p n ∧ H l = some (.lst xs) ∧ xs.length ≤ 100 ∧ n + xs.length < 1000000 ∧
  ∀ (q : Addr) (H' : Hp) (ys : List V), Same H0 H' → H0 q = none → q ≠ p → H' q = some (.lst ys) → ys.Perm xs → BoxIn H0 H' p (n + xs.length) → Q (.ref q) H'
/-- m names -/
def sp_names : Sp := fun vs H Q _ => ∃ (H0 : Hp) (p : Addr) (n m : Nat), vs = [.ref p, .int m] ∧ BoxIn H0 H p n ∧ m ≤ 13 ∧ n + 40 < 1000000 ∧
  ∀ (q : Addr) (H' : Hp) (ss : List Str), Same H0 H' → H0 q = none → q ≠ p → H' q = some (.lst (ss.map V.str)) → ss.length = m → (∀ s ∈ ss, sOk 16 s) → BoxIn H0 H' p (n + 40) → Q (.ref q) H'
theorem strs_of {W : List Str} : ∀ {xs : List V}, (∀ y ∈ xs, ∃ s, s ∈ W ∧ y = V.str s) → ∃ ss : List Str, xs = ss.map V.str ∧ ∀ s ∈ ss, s ∈ W
  | [], _ => ⟨[], rfl, fun s h => by cases h⟩
  | x :: r, h => by
    obtain ⟨s, hs, rfl⟩ := h x List.mem_cons_self
    obtain ⟨ss, rfl, h2⟩ := strs_of (xs := r) fun y hy => h y (List.mem_cons_of_mem _ hy)
    refine ⟨s :: ss, rfl, fun y hy => ?_⟩
    rcases List.mem_cons.mp hy with rfl | q
    · exact hs
    · exact h2 y q
/-! ### kinds and steps -/
def kindsL : List Str := ["put", "strike", "read", "direct", "hang", "take", "split", "join"]
def locksTb : List (Str × List Str) := [("put", ["table", "part"]), ("strike", ["table", "part"]), ("read", ["table", "part"]), ("direct", ["part"]), ("hang", ["table", "new", "rest"]), ("take", ["table", "old", "rest"]), ("split", ["table", "old", "new", "rest"]), ("join", ["table", "old", "new", "rest"])]
def stepsTb : List (Str × List (List Str)) := [("put", [["look"], ["again"], ["key"], ["put"], ["claim"], ["end"]]), ("strike", [["look"], ["again"], ["strike"], ["end"]]), ("read", [["look"], ["again"], ["view"], ["read"], ["end"]]), ("direct", [["border"], ["key"], ["put"], ["claim"], ["end"]]),
  ("hang", [["scan", "new"], ["scan", "rest"], ["switch"], ["wait"], ["close"], ["end"]]), ("take", [["switch"], ["wait"], ["close"], ["end"]]), ("split", [["move"], ["switch"], ["wait"], ["close"], ["end"]]), ("join", [["move"], ["switch"], ["wait"], ["close"], ["end"]])]
def locksT (k : Str) : List Str := ((locksTb.find? fun p => decide (p.1 = k)).map (·.2)).getD []
def stepsT (k : Str) : List (List Str) := ((stepsTb.find? fun p => decide (p.1 = k)).map (·.2)).getD []
def strsD (ss : List Str) : PyData := .tuple (ss.map .str)
def kindD (d : PyData) : Bool := (kindsL.map PyData.str).any fun z => PyData.eqv z d
theorem eqv_str_iff {s : Str} {d : PyData} (h : PyData.eqv (.str s) d = true) : d = .str s := by
  cases d with
  | str t =>
    have h' : (s == t) = true := by simpa [PyData.eqv] using h
    rw [eq_of_beq h']
  | _ => simp [PyData.eqv] at h
theorem eqv_str_iff2 {s : Str} {d : PyData} (h : PyData.eqv d (.str s) = true) : d = .str s := by
  cases d with
  | str t =>
    have h' : (t == s) = true := by simpa [PyData.eqv] using h
    rw [eq_of_beq h']
  | _ => simp [PyData.eqv] at h
theorem eqv_str_self (s : Str) : PyData.eqv (.str s) (.str s) = true := by simp [PyData.eqv]
theorem any_strs {ss : List Str} {s : Str} : ((ss.map PyData.str).any fun z => PyData.eqv z (.str s)) = decide (s ∈ ss) := by
  rw [Bool.eq_iff_iff, List.any_eq_true, decide_eq_true_iff]
  constructor
  · rintro ⟨z, hz, e⟩
    obtain ⟨t, ht, rfl⟩ := List.mem_map.mp hz
    have := eqv_str_iff e
    injection this with h
    rw [h]
    exact ht
  · intro h
    exact ⟨_, List.mem_map.mpr ⟨s, h, rfl⟩, eqv_str_self s⟩
theorem kindD_str (s : Str) : kindD (.str s) = decide (s ∈ kindsL) := any_strs
theorem kindD_of {d : PyData} (h : kindD d = true) : ∃ s ∈ kindsL, d = .str s := by
  obtain ⟨z, hz, e⟩ := List.any_eq_true.mp h
  obtain ⟨s, hs, rfl⟩ := List.mem_map.mp hz
  exact ⟨s, hs, eqv_str_iff e⟩
theorem eqvAll_strs : ∀ (ss : List Str) {ds : List PyData}, PyData.eqvAll (ss.map .str) ds = true → ds = ss.map .str
  | [], ds, h => by
    cases ds with
    | nil => rfl
    | cons d r => simp [PyData.eqvAll] at h
  | s :: r, ds, h => by
    cases ds with
    | nil => simp [PyData.eqvAll] at h
    | cons d es =>
      have h' : (PyData.eqv (.str s) d && PyData.eqvAll (r.map .str) es) = true := by simpa [PyData.eqvAll] using h
      rw [Bool.and_eq_true] at h'
      rw [eqv_str_iff h'.1, eqvAll_strs r h'.2]
      rfl
theorem eqv_strs_self : ∀ ss : List Str, PyData.eqvAll (ss.map .str) (ss.map .str) = true
  | [] => by simp [PyData.eqvAll]
  | s :: r => by simp [PyData.eqvAll, eqv_str_self, eqv_strs_self r]
theorem any_strsD {L : List (List Str)} {ss : List Str} : ((L.map strsD).any fun z => PyData.eqv z (strsD ss)) = decide (ss ∈ L) := by
  rw [Bool.eq_iff_iff, List.any_eq_true, decide_eq_true_iff]
  constructor
  · rintro ⟨z, hz, e⟩
    obtain ⟨t, ht, rfl⟩ := List.mem_map.mp hz
    have e' : PyData.eqvAll (t.map .str) (ss.map .str) = true := by simpa [strsD, PyData.eqv] using e
    have := eqvAll_strs t e'
    have h2 : ss = t := by
      have inj : Function.Injective PyData.str := fun a b q => by injection q
      exact List.map_inj_right (fun a b q => by injection q) |>.mp this
    rw [h2]
    exact ht
  · intro h
    exact ⟨_, List.mem_map.mpr ⟨ss, h, rfl⟩, by simp [strsD, PyData.eqv, eqv_strs_self]⟩
theorem any_strsD_no {L : List (List Str)} {ds : List PyData} (h : ∀ ss : List Str, ds ≠ ss.map .str) : ((L.map strsD).any fun z => PyData.eqv z (.tuple ds)) = false := by
  cases e : (L.map strsD).any fun z => PyData.eqv z (.tuple ds) with
  | false => rfl
  | true =>
    obtain ⟨z, hz, e⟩ := List.any_eq_true.mp e
    obtain ⟨t, ht, rfl⟩ := List.mem_map.mp hz
    have e' : PyData.eqvAll (t.map .str) ds = true := by simpa [strsD, PyData.eqv] using e
    exact absurd (eqvAll_strs t e') (h t)
/-- what is_step tells of texts -/
def stepS (k : Str) : List Str → Bool
  | [a, b, c] => decide (a = "lock") && (decide (b ∈ locksT k) && nameS c)
  | ss => decide (ss ∈ stepsT k)
/-- .. and of all data -/
def stepD (k : Str) : List PyData → Bool
  | [a, b, c] => PyData.eqv a (.str "lock") && ((((locksT k).map PyData.str).any fun z => PyData.eqv z b) && nameO (some c))
  | ds => ((stepsT k).map strsD).any fun z => PyData.eqv z (.tuple ds)
theorem stepD_strs (k : Str) (ss : List Str) : stepD k (ss.map .str) = stepS k ss := by
  match ss with
  | [a, b, c] =>
    show (PyData.eqv (.str a) (.str "lock") && ((((locksT k).map PyData.str).any fun z => PyData.eqv z (.str b)) && nameS c)) = _
    rw [any_strs]
    have : PyData.eqv (.str a) (.str "lock") = decide (a = "lock") := by
      rw [Bool.eq_iff_iff, decide_eq_true_iff]
      exact ⟨fun h => by have := eqv_str_iff2 h; injection this, fun h => by rw [h]; exact eqv_str_self _⟩
    rw [this]
    rfl
  | [] => exact any_strsD (ss := [])
  | [a] => exact any_strsD (ss := [a])
  | [a, b] => exact any_strsD (ss := [a, b])
  | a :: b :: c :: d :: r => exact any_strsD (ss := a :: b :: c :: d :: r)
theorem stepD_no {k : Str} {ds : List PyData} (h : ∀ ss : List Str, ds ≠ ss.map .str) : stepD k ds = false := by
  match ds, h with
  | [a, b, c], h =>
    show (PyData.eqv a (.str "lock") && ((((locksT k).map PyData.str).any fun z => PyData.eqv z b) && nameO (some c))) = false
    cases e1 : PyData.eqv a (.str "lock") with
    | false => rfl
    | true =>
      cases e2 : ((locksT k).map PyData.str).any fun z => PyData.eqv z b with
      | false => rfl
      | true =>
        cases c with
        | str c =>
          obtain ⟨z, hz, e⟩ := List.any_eq_true.mp e2
          obtain ⟨t, ht, rfl⟩ := List.mem_map.mp hz
          exact absurd (by rw [eqv_str_iff2 e1, eqv_str_iff e]; rfl) (h ["lock", t, c])
        | _ => rfl
  | [], h => exact any_strsD_no h
  | [a], h => exact any_strsD_no h
  | [a, b], h => exact any_strsD_no h
  | a :: b :: c :: d :: r, h => exact any_strsD_no h
def stepO (k : Str) : Option PyData → Bool
  | some (.tuple ds) => stepD k ds
  | _ => false
theorem stepO_ty {k : Str} {o : Option PyData} (e : isT "tuple" o = false) : stepO k o = false := by
  rcases o with _ | d
  · rfl
  · cases d with
    | tuple s => cases e
    | _ => rfl
theorem kinds_shaped : SeqAt.shaped (.tuple (kindsL.map PyData.str)) = true := by decide +kernel
theorem locks_shaped {k : Str} (h : k ∈ kindsL) : SeqAt.shaped (strsD (locksT k)) = true := by
  have all : ∀ k ∈ kindsL, SeqAt.shaped (strsD (locksT k)) = true := by decide +kernel
  exact all k h
theorem steps_shaped {k : Str} (h : k ∈ kindsL) : SeqAt.shaped (.tuple ((stepsT k).map strsD)) = true := by
  have all : ∀ k ∈ kindsL, SeqAt.shaped (.tuple ((stepsT k).map strsD)) = true := by decide +kernel
  exact all k h
theorem stepD_else {k : Str} {ds : List PyData} (h : ds.length ≠ 3) : stepD k ds = ((stepsT k).map strsD).any fun z => PyData.eqv z (.tuple ds) := by
  match ds, h with
  | [], _ => rfl
  | [_], _ => rfl
  | [_, _], _ => rfl
  | [_, _, _], h => exact absurd rfl h
  | _ :: _ :: _ :: _ :: _, _ => rfl
theorem shaped_item {d : PyData} (h : d.canLay0 = true ∧ d.depth ≤ 63) : SeqAt.shaped d = true := shaped_iff.mpr ⟨h.1, by omega⟩
/-- the texts within a tuple are short -/
def shortO (o : Option PyData) : Prop := ∀ ds, o = some (.tuple ds) → ds.length ≤ 100 ∧ ∀ s, PyData.str s ∈ ds → s.length ≤ 1000
def sp_kind (K : PySem.W.Frag) : Sp := fun vs H Q _ => ∃ (v : V) (d : PyData), vs = [v] ∧ Dp K H v d ∧ SeqAt.shaped d = true ∧ Q (.bl (kindD d)) H
def sp_rkind (K : PySem.W.Frag) (C : Addr) : Sp := fun vs H Q E => ∃ (v : V) (d : PyData), vs = [v] ∧ Dp K H v d ∧ SeqAt.shaped d = true ∧ (kindD d = true → Q .non H) ∧ (kindD d = false → Rz H E C "kind" v)
def sp_is_step (K : PySem.W.Frag) (C : Addr) : Sp := fun vs H Q E => ∃ (x y : V) (o : Option PyData) (d : PyData), vs = [x, y] ∧ VD K H x o ∧ shortO o ∧ Dp K H y d ∧ SeqAt.shaped d = true ∧ (kindD d = false → Rz H E C "kind" y) ∧
  ∀ k, d = .str k → k ∈ kindsL → ∀ H', Same H H' → Q (.bl (stepO k o)) H'
/-! ### dicts from texts to lists of texts -/
def getO (tb : List (Str × List Str)) (w : Str) : Option (List Str) := (tb.find? fun p => decide (p.1 = w)).map (·.2)
inductive KvT (H : Hp) : List (Key × V) → List (Str × List Str) → Prop where
  | nil : KvT H [] []
  | cons {s : Str} {ss : List Str} {a : Addr} {kvs : List (Key × V)} {tb : List (Str × List Str)} : H a = some (.lst (ss.map V.str)) → KvT H kvs tb → KvT H ((.inr s, .ref a) :: kvs) ((s, ss) :: tb)
theorem KvT.mono {H H' : Hp} {kvs : List (Key × V)} {tb : List (Str × List Str)} (h : KvT H kvs tb) (e : Same H H') : KvT H' kvs tb := by
  induction h with
  | nil => exact .nil
  | cons a _ ih => exact .cons (e _ _ a) ih
theorem KvT.get {H : Hp} {kvs : List (Key × V)} {tb : List (Str × List Str)} (h : KvT H kvs tb) (w : Str) : (getO tb w = none ∧ valV kvs (.inr w) = none) ∨ ∃ a ss, getO tb w = some ss ∧ valV kvs (.inr w) = some (.ref a) ∧ H a = some (.lst (ss.map V.str)) := by
  induction h with
  | nil => exact .inl ⟨rfl, rfl⟩
  | @cons s ss a kvs tb h1 h2 ih =>
    by_cases e : s = w
    · refine .inr ⟨a, ss, ?_, ?_, h1⟩
      · simp [getO, e]
      · exact valV_pos (p := (Sum.inr s, V.ref a)) (by rw [e])
    · have e1 : getO ((s, ss) :: tb) w = getO tb w := by simp [getO, List.find?_cons, e]
      have e2 : valV (((Sum.inr s : Key), V.ref a) :: kvs) (.inr w) = valV kvs (.inr w) := valV_neg (fun q => e (by injection q))
      rw [e1, e2]
      exact ih
theorem KvT.snoc {H : Hp} {kvs : List (Key × V)} {tb : List (Str × List Str)} (h : KvT H kvs tb) {w : Str} {ss : List Str} {a : Addr} (ha : H a = some (.lst (ss.map V.str))) : KvT H (kvs ++ [(.inr w, .ref a)]) (tb ++ [(w, ss)]) := by
  induction h with
  | nil => exact .cons ha .nil
  | cons h1 _ ih => exact .cons h1 ih
theorem KvT.put {H : Hp} {kvs : List (Key × V)} {tb : List (Str × List Str)} (h : KvT H kvs tb) {w : Str} {ss : List Str} {a : Addr} (ha : H a = some (.lst (ss.map V.str))) (n : (getO tb w).isNone = true) : KvT H (putK kvs (.inr w) (.ref a)) (tb ++ [(w, ss)]) := by
  have e : (kvs.any fun kv => decide (kv.1 = (Sum.inr w : Key))) = false := by
    rw [valV_any]
    rcases h.get w with ⟨_, e⟩ | ⟨_, _, e, _, _⟩
    · rw [e]; rfl
    · rw [e] at n
      cases n
  unfold putK
  rw [e]
  exact h.snoc ha
def freshT : List (Str × List Str) → List (Str × List Str) → Bool
  | _, [] => true
  | tb, p :: r => (getO tb p.1).isNone && freshT (tb ++ [p]) r
theorem KvT.merge {H : Hp} {more : List (Key × V)} {tb2 : List (Str × List Str)} (h2 : KvT H more tb2) : ∀ {kvs : List (Key × V)} {tb : List (Str × List Str)}, KvT H kvs tb → freshT tb tb2 = true → KvT H (mergeK kvs more) (tb ++ tb2) := by
  induction h2 with
  | nil => intro kvs tb h _; rw [List.append_nil]; exact h
  | @cons s ss a more tb2 ha _ ih =>
    intro kvs tb h f
    have f' : ((getO tb s).isNone && freshT (tb ++ [(s, ss)]) tb2) = true := f
    rw [Bool.and_eq_true] at f'
    have := ih (h.put ha f'.1) f'.2
    rw [List.append_assoc] at this
    exact this
theorem KvT.len {H : Hp} {kvs : List (Key × V)} {tb : List (Str × List Str)} (h : KvT H kvs tb) : kvs.length = tb.length := by
  induction h with
  | nil => rfl
  | cons _ _ ih => simp [ih]
theorem KvT.over {H : Hp} {kvs x : List (Key × V)} {tb : List (Str × List Str)} {pd : Addr} {o : HO} (hd : H pd = some (.dK x)) (h : KvT H kvs tb) : KvT (upd H pd o) kvs tb := by
  induction h with
  | nil => exact .nil
  | @cons s ss a kvs tb h1 _ ih =>
    refine .cons ?_ ih
    rw [upd_ne fun e => by rw [e, hd] at h1; cases h1]
    exact h1
theorem same_but {G H : Hp} {pd : Addr} (s : Same G H) (h : G pd = none) : Same G (but H pd) := fun x u e => by
  rw [but_ne fun q => by rw [q, h] at e; cases e]
  exact s _ _ e
theorem in_strs (k : Str) (ss : List Str) : inV (.str k) (ss.map V.str) = decide (k ∈ ss) := by
  unfold inV
  rw [Bool.eq_iff_iff, List.any_eq_true, decide_eq_true_iff]
  constructor
  · rintro ⟨z, hz, e⟩
    obtain ⟨t, ht, rfl⟩ := List.mem_map.mp hz
    have : (t == k) = true := e
    rw [← eq_of_beq this]
    exact ht
  · intro h
    exact ⟨_, List.mem_map.mpr ⟨k, h, rfl⟩, by show (k == k) = true; simp⟩
theorem flat_strs (ss : List Str) : (ss.map V.str).all flatV = true := by
  rw [List.all_eq_true]
  intro x hx
  obtain ⟨s, _, rfl⟩ := List.mem_map.mp hx
  rfl
theorem same_over {G H : Hp} {o : HO} (s : Same G H) {pd : Addr} (h : G pd = none) : Same G (upd H pd o) := fun x u e => by
  rw [upd_ne fun q => by rw [q, h] at e; cases e]
  exact s _ _ e
/-! ### the law's own steps -/
def askersL : List Str := ["put", "strike", "read"]
def changesL : List Str := ["hang", "take", "split", "join"]
def atTb : List (Str × List Str) := [("table", askersL ++ changesL), ("part", askersL ++ (["direct"] : List Str)), ("old", ["take", "split", "join"]), ("rest", changesL), ("new", ["hang", "split", "join"])]
def whereTb : List (Str × List Str) := [("look", askersL), ("again", askersL), ("border", ["direct"]), ("strike", ["strike"]), ("end", kindsL), ("key", ["put", "direct"]), ("put", ["put", "direct"]), ("claim", ["put", "direct"]), ("view", ["read"]), ("read", ["read"]), ("switch", changesL), ("wait", changesL), ("close", changesL), ("move", ["split", "join"])]
def lockR (k : Str) : List Str → Bool
  | [b, c] => nameS c && decide (k ∈ (getO atTb b).getD [])
  | _ => false
def whereR (k a : Str) : List Str → Bool
  | [] => decide (k ∈ (getO whereTb a).getD [])
  | _ => false
def lawS (k : Str) : List Str → Bool
  | [] => false
  | a :: r => if a = "lock" then lockR k r else if a = "scan" then decide (k = "hang") && decide (r ∈ ([["new"], ["rest"]] : List (List Str))) else whereR k a r
def wordsW : List Str := ["look", "again", "border", "strike", "end", "key", "put", "claim", "view", "read", "switch", "wait", "close", "move", "lock", "scan"]
theorem getO_none {tb : List (Str × List Str)} {w : Str} (h : ∀ p ∈ tb, p.1 ≠ w) : getO tb w = none := by
  induction tb with
  | nil => rfl
  | cons p r ih =>
    have e1 : ¬ p.1 = w := h p List.mem_cons_self
    have := ih fun q hq => h q (List.mem_cons_of_mem _ hq)
    simpa [getO, List.find?_cons, e1] using this
theorem steps_len : ∀ k ∈ kindsL, ∀ t ∈ stepsT k, (t.length = 1 ∧ (∀ x ∈ t, x ∈ wordsW)) ∨ (t.length = 2 ∧ k = "hang" ∧ (t = (["scan", "new"] : List Str) ∨ t = (["scan", "rest"] : List Str))) := by decide +kernel
theorem one_law : ∀ k ∈ kindsL, ∀ a ∈ wordsW, stepS k [a] = lawS k [a] := by decide +kernel
theorem lock_law : ∀ k ∈ kindsL, ∀ b ∈ (["table", "part", "old", "new", "rest"] : List Str), decide (b ∈ locksT k) = decide (k ∈ (getO atTb b).getD []) := by decide +kernel
theorem lock_in : ∀ k ∈ kindsL, ∀ b ∈ locksT k, b ∈ (["table", "part", "old", "new", "rest"] : List Str) := by decide +kernel
theorem scan_in : (["scan", "new"] : List Str) ∈ stepsT "hang" ∧ (["scan", "rest"] : List Str) ∈ stepsT "hang" := by decide +kernel
theorem stepS_law {k : Str} (hk : k ∈ kindsL) (ss : List Str) : stepS k ss = lawS k ss := by
  match ss with
  | [] =>
    have all : ∀ k ∈ kindsL, stepS k [] = lawS k [] := by decide +kernel
    exact all k hk
  | [a] =>
    by_cases ha : a ∈ wordsW
    · exact one_law k hk a ha
    · have e1 : stepS k [a] = false := by
        refine decide_eq_false fun h => ?_
        rcases steps_len k hk _ h with ⟨_, h2⟩ | ⟨h2, _⟩
        · exact ha (h2 a List.mem_cons_self)
        · cases h2
      have n1 : ¬ a = "lock" := fun e => ha (by rw [e]; decide +kernel)
      have n2 : ¬ a = "scan" := fun e => ha (by rw [e]; decide +kernel)
      have n3 : getO whereTb a = none := getO_none fun p hp e => ha (by
        have all : ∀ p ∈ whereTb, p.1 ∈ wordsW := by decide +kernel
        rw [← e]
        exact all p hp)
      rw [e1]
      show false = if a = "lock" then lockR k [] else if a = "scan" then decide (k = "hang") && decide ([] ∈ ([["new"], ["rest"]] : List (List Str))) else decide (k ∈ (getO whereTb a).getD [])
      rw [if_neg n1, if_neg n2, n3]
      rfl
  | [a, b] =>
    have e : stepS k [a, b] = decide ([a, b] ∈ stepsT k) := rfl
    rw [e]
    show _ = if a = "lock" then false else if a = "scan" then decide (k = "hang") && decide ([b] ∈ ([["new"], ["rest"]] : List (List Str))) else false
    by_cases n1 : a = "lock"
    · rw [if_pos n1]
      refine decide_eq_false fun h => ?_
      rcases steps_len k hk _ h with ⟨h2, _⟩ | ⟨_, _, h2 | h2⟩
      · cases h2
      · injection h2 with h3 _
        rw [n1] at h3
        exact absurd h3 (by decide +kernel)
      · injection h2 with h3 _
        rw [n1] at h3
        exact absurd h3 (by decide +kernel)
    · rw [if_neg n1]
      by_cases n2 : a = "scan"
      · rw [if_pos n2, Bool.eq_iff_iff, Bool.and_eq_true, decide_eq_true_iff, decide_eq_true_iff, decide_eq_true_iff]
        constructor
        · intro h
          rcases steps_len k hk _ h with ⟨h2, _⟩ | ⟨_, h1, h2 | h2⟩
          · cases h2
          · injection h2 with _ h3
            exact ⟨h1, by rw [h3]; decide +kernel⟩
          · injection h2 with _ h3
            exact ⟨h1, by rw [h3]; decide +kernel⟩
        · rintro ⟨h1, h2⟩
          rw [h1, n2]
          rcases List.mem_cons.mp h2 with h3 | h3
          · rw [h3]; exact scan_in.1
          · rw [List.mem_singleton.mp h3]; exact scan_in.2
      · rw [if_neg n2]
        refine decide_eq_false fun h => ?_
        rcases steps_len k hk _ h with ⟨h2, _⟩ | ⟨_, _, h2 | h2⟩
        · cases h2
        · injection h2 with h3 _
          exact n2 h3
        · injection h2 with h3 _
          exact n2 h3
  | [a, b, c] =>
    show (decide (a = "lock") && (decide (b ∈ locksT k) && nameS c)) = if a = "lock" then nameS c && decide (k ∈ (getO atTb b).getD []) else if a = "scan" then decide (k = "hang") && decide ([b, c] ∈ ([["new"], ["rest"]] : List (List Str))) else false
    have e : decide (b ∈ locksT k) = decide (k ∈ (getO atTb b).getD []) := by
      by_cases hb : b ∈ (["table", "part", "old", "new", "rest"] : List Str)
      · exact lock_law k hk b hb
      · have n3 : getO atTb b = none := getO_none fun p hp e => hb (by
          have all : ∀ p ∈ atTb, p.1 ∈ (["table", "part", "old", "new", "rest"] : List Str) := by decide +kernel
          rw [← e]
          exact all p hp)
        rw [n3, decide_eq_false fun h => hb (lock_in k hk b h)]
        rfl
    by_cases n1 : a = "lock"
    · rw [if_pos n1, decide_eq_true n1, e, Bool.true_and, Bool.and_comm]
    · rw [if_neg n1, decide_eq_false n1, Bool.false_and]
      by_cases n2 : a = "scan"
      · rw [if_pos n2]
        have : decide ([b, c] ∈ ([["new"], ["rest"]] : List (List Str))) = false := decide_eq_false fun h => by
          rcases List.mem_cons.mp h with h3 | h3
          · cases h3
          · cases List.mem_singleton.mp h3
        rw [this, Bool.and_false]
      · rw [if_neg n2]
  | a :: b :: c :: d :: r =>
    have e1 : stepS k (a :: b :: c :: d :: r) = false := by
      refine decide_eq_false fun h => ?_
      rcases steps_len k hk _ h with ⟨h2, _⟩ | ⟨h2, _⟩
      · simp at h2
      · simp at h2
    rw [e1]
    show false = if a = "lock" then false else if a = "scan" then decide (k = "hang") && decide ((b :: c :: d :: r) ∈ ([["new"], ["rest"]] : List (List Str))) else false
    by_cases n1 : a = "lock"
    · rw [if_pos n1]
    · rw [if_neg n1]
      by_cases n2 : a = "scan"
      · rw [if_pos n2]
        have : decide ((b :: c :: d :: r) ∈ ([["new"], ["rest"]] : List (List Str))) = false := decide_eq_false fun h => by
          rcases List.mem_cons.mp h with h3 | h3
          · cases h3
          · cases List.mem_singleton.mp h3
        rw [this, Bool.and_false]
      · rw [if_neg n2]
def sp_law_kinds : Sp := fun vs H Q _ => vs = [] ∧ ∀ p, H p = none → Q (.ref p) (upd H p (.lst (kindsL.map V.str)))
def sp_law_is_step (K : PySem.W.Frag) : Sp := fun vs H Q _ => ∃ (v : V) (o : Option PyData) (k : Str), vs = [v, .str k] ∧ VD K H v o ∧ shortO o ∧ k ∈ kindsL ∧ ∀ H', Same H H' → Q (.bl (stepO k o)) H'
def notStr : PyData → Bool
  | .str _ => false
  | _ => true
/-- those of which f holds -/
def filtG (f : PyData → Bool) : List V → List PyData → List V
  | x :: xs, d :: ds => if f d = true then x :: filtG f xs ds else filtG f xs ds
  | _, _ => []
theorem filtG_len (f : PyData → Bool) : ∀ (xs : List V) (ds : List PyData), (filtG f xs ds).length ≤ xs.length
  | [], _ => by simp [filtG]
  | _ :: _, [] => by simp [filtG]
  | x :: xs, d :: ds => by
    have ih := filtG_len f xs ds
    simp only [filtG]
    split
    · simp only [List.length_cons]
      omega
    · simp only [List.length_cons]
      omega
theorem filtG_step {f : PyData → Bool} : ∀ {xs : List V} {ds : List PyData} {i : Nat} {x : V} {d : PyData}, xs[i]? = some x → ds[i]? = some d → filtG f (xs.take (i + 1)) (ds.take (i + 1)) = if f d = true then filtG f (xs.take i) (ds.take i) ++ [x] else filtG f (xs.take i) (ds.take i)
  | [], _, _, _, _, h, _ => by simp at h
  | _ :: _, [], _, _, _, _, h => by simp at h
  | y :: ys, e :: es, 0, x, d, h1, h2 => by
    cases h1
    cases h2
    simp [filtG]
  | y :: ys, e :: es, i + 1, x, d, h1, h2 => by
    have ih := filtG_step (f := f) (xs := ys) (ds := es) (i := i) (x := x) (d := d) (by simpa using h1) (by simpa using h2)
    simp only [List.take_succ_cons, filtG, ih]
    split <;> split <;> simp
theorem filtG_dp {K : PySem.W.Frag} {H : Hp} {f : PyData → Bool} : ∀ {xs : List V} {ds : List PyData}, DpAll K H xs ds → DpAll K H (filtG f xs ds) (ds.filter f)
  | _, _, .nil => by simp [filtG]; exact .nil
  | _, _, .cons (v := v) (d := d) a b => by
    have ih := filtG_dp (f := f) b
    simp only [filtG]
    cases h : f d with
    | true =>
      simp [h]
      exact .cons a ih
    | false =>
      simp [h]
      exact ih
theorem strs_ds : ∀ {ds : List PyData}, (ds.filter notStr).isEmpty = true → ∃ ss : List Str, ds = ss.map .str
  | [], _ => ⟨[], rfl⟩
  | d :: r, h => by
    cases d with
    | str s =>
      obtain ⟨ss, e⟩ := strs_ds (ds := r) (by simpa [notStr] using h)
      exact ⟨s :: ss, by rw [e]; rfl⟩
    | _ => simp [notStr] at h
theorem strs_ds_no {ds : List PyData} (h : (ds.filter notStr).isEmpty = false) (ss : List Str) : ds ≠ ss.map .str := by
  intro e
  rw [e] at h
  have : (ss.map PyData.str).filter notStr = [] := by
    rw [List.filter_eq_nil_iff]
    intro a ha
    obtain ⟨s, _, rfl⟩ := List.mem_map.mp ha
    simp [notStr]
  rw [this] at h
  cases h
theorem dp_strs {K : PySem.W.Frag} {H : Hp} : ∀ {ss : List Str} {xs : List V}, DpAll K H xs (ss.map .str) → xs = ss.map V.str
  | [], _, .nil => rfl
  | s :: r, _, .cons a b => by
    cases a
    rw [dp_strs b]
    rfl
theorem strsD_shaped {ss : List Str} (h : ∀ s ∈ ss, SeqAt.shaped (.str s) = true) : SeqAt.shaped (strsD ss) = true := by
  refine shaped_iff.mpr ⟨?_, ?_⟩
  · simp only [strsD, PyData.canLay0]
    refine canAll_mem.mpr fun d hd => ?_
    obtain ⟨s, hs, rfl⟩ := List.mem_map.mp hd
    exact (shaped_iff.mp (h s hs)).1
  · have : PyData.depthAll (ss.map .str) ≤ 0 := depthAll_le fun d hd => by
      obtain ⟨s, hs, rfl⟩ := List.mem_map.mp hd
      simp [PyData.depth]
    simp only [strsD, PyData.depth]
    omega
/-! ### atoms: short texts, 5, None -/
def At (v : V) : Prop := (∃ s, v = .str s ∧ sOk 16 s) ∨ v = .int 5 ∨ v = .non
def atD : V → PyData
  | .str s => .str s
  | .int i => .int i
  | _ => .none
theorem At.dp {v : V} (h : At v) : (∀ (K : PySem.W.Frag) (H : Hp), Dp K H v (atD v)) ∧ (atD v).canLay0 = true ∧ (atD v).depth ≤ 0 ∧ ∀ s, atD v = .str s → s.length ≤ 1000 := by
  rcases h with ⟨s, rfl, hs⟩ | rfl | rfl
  · refine ⟨fun K H => .str s, ?_, by simp [atD, PyData.depth], fun t e => ?_⟩
    · simp only [atD, PyData.canLay0]
      exact hs.2
    · injection e with e
      rw [← e]
      exact Nat.le_trans hs.1 (by decide)
  · exact ⟨fun K H => .int 5, rfl, by simp [atD, PyData.depth], fun t e => nomatch e⟩
  · exact ⟨fun K H => .non, rfl, by simp [atD, PyData.depth], fun t e => nomatch e⟩
theorem ats_dp {K : PySem.W.Frag} {H : Hp} : ∀ {xs : List V}, (∀ v ∈ xs, At v) → DpAll K H xs (xs.map atD)
  | [], _ => .nil
  | x :: r, h => .cons ((h x List.mem_cons_self).dp.1 K H) (ats_dp fun v hv => h v (List.mem_cons_of_mem _ hv))
theorem ats_shaped {xs : List V} (h : ∀ v ∈ xs, At v) : SeqAt.shaped (.tuple (xs.map atD)) = true ∧ SeqAt.shaped (.list (xs.map atD)) = true := by
  have h1 : PyData.canLayAll0 (xs.map atD) = true := canAll_mem.mpr fun d hd => by
    obtain ⟨v, hv, rfl⟩ := List.mem_map.mp hd
    exact (h v hv).dp.2.1
  have h2 : PyData.depthAll (xs.map atD) ≤ 0 := depthAll_le fun d hd => by
    obtain ⟨v, hv, rfl⟩ := List.mem_map.mp hd
    exact (h v hv).dp.2.2.1
  refine ⟨shaped_iff.mpr ⟨by simp only [PyData.canLay0]; exact h1, ?_⟩, shaped_iff.mpr ⟨by simp only [PyData.canLay0]; exact h1, ?_⟩⟩
  · simp only [PyData.depth]
    omega
  · simp only [PyData.depth]
    omega
theorem ats_tup {K : PySem.W.Frag} {H : Hp} {t : Addr} {xs : List V} (h : ∀ v ∈ xs, At v) (hl : xs.length ≤ 100) (ht : H t = some (.tup xs)) : ∃ o, VD K H (.ref t) o ∧ shortO o := by
  refine ⟨some (.tuple (xs.map atD)), .dat (.tup (SqT.of ht) (ats_dp h)) (ats_shaped h).1 (fun s e => nomatch e), fun ds e => ?_⟩
  injection e with e
  injection e with e
  rw [← e]
  refine ⟨by rw [List.length_map]; exact hl, fun s hs => ?_⟩
  obtain ⟨v, hv, q⟩ := List.mem_map.mp hs
  exact (h v hv).dp.2.2.2 s q
theorem ats_lst {K : PySem.W.Frag} {H : Hp} {t : Addr} {xs : List V} (h : ∀ v ∈ xs, At v) (ht : H t = some (.lst xs)) : ∃ o, VD K H (.ref t) o ∧ shortO o :=
  ⟨some (.list (xs.map atD)), .dat (.lst (SqL.of ht) (ats_dp h)) (ats_shaped h).2 (fun s e => nomatch e), fun ds e => by cases e⟩
theorem at_strs {ss : List Str} (h : ∀ s ∈ ss, sOk 16 s) : ∀ v ∈ ss.map V.str, At v := fun v hv => by
  obtain ⟨s, hs, rfl⟩ := List.mem_map.mp hv
  exact .inl ⟨s, rfl, h s hs⟩
def sp_drawn_step : Sp := fun vs H Q _ => ∃ (H0 : Hp) (p m : Addr) (n : Nat) (ms : List Str), vs = [.ref p, .ref m] ∧ BoxIn H0 H p n ∧ H0 m = some (.lst (ms.map V.str)) ∧ 0 < ms.length ∧ ms.length ≤ 100 ∧ (∀ s ∈ ms, sOk 16 s) ∧ n + 10 < 1000000 ∧
  ∀ (H1 H' : Hp) (t : Addr) (ss : List Str), Same H0 H1 → BoxIn H1 H' p (n + 10) → H1 t = some (.tup (ss.map V.str)) → ss.length ≤ 3 → (∀ s ∈ ss, sOk 16 s) → Q (.ref t) H'
def sp_bent (K : PySem.W.Frag) : Sp := fun vs H Q _ => ∃ (H0 : Hp) (p t : Addr) (n : Nat) (ss : List Str), vs = [.ref p, .ref t] ∧ BoxIn H0 H p n ∧ H0 t = some (.tup (ss.map V.str)) ∧ ss.length ≤ 3 ∧ (∀ s ∈ ss, sOk 16 s) ∧ n + 10 < 1000000 ∧
  ∀ (H1 H' : Hp) (v : V), Same H0 H1 → BoxIn H1 H' p (n + 10) → (∃ o, VD K H1 v o ∧ shortO o) → Q v H'
/-- told of a raise, with the value itself -/
def Told1 (H : Hp) (Q : VK) (w : Str) (v : V) : Prop := ∀ p H', Same H H' → H p = none → H' p = some (.lst [.str w, v]) → Q (.ref p) H'
def sp_told (K : PySem.W.Frag) : Sp := fun vs H Q _ => ∃ (x y : V) (o : Option PyData) (d : PyData), vs = [x, y] ∧ VD K H x o ∧ shortO o ∧ Dp K H y d ∧ SeqAt.shaped d = true ∧ kindD d = false ∧ Told1 H Q "kind" y
theorem sure2 {w : Str} {v : V} (h : sureV v = true) : ([.str w, v] : List V).all sureV = true := by
  show (sureV (.str w) && (sureV v && true)) = true
  rw [h]
  rfl
def tb_KINDS : PyData := (.tuple [(.str "put"), (.str "strike"), (.str "read"), (.str "direct"), (.str "hang"), (.str "take"), (.str "split"), (.str "join")])
def tb_LOCKS : List (Str × PyData) := [("put", (.tuple [(.str "table"), (.str "part")])), ("strike", (.tuple [(.str "table"), (.str "part")])), ("read", (.tuple [(.str "table"), (.str "part")])), ("direct", (.tuple [(.str "part")])), ("hang", (.tuple [(.str "table"), (.str "new"), (.str "rest")])), ("take", (.tuple [(.str "table"), (.str "old"), (.str "rest")])), ("split", (.tuple [(.str "table"), (.str "old"), (.str "new"), (.str "rest")])), ("join", (.tuple [(.str "table"), (.str "old"), (.str "new"), (.str "rest")]))]
def tb_STEPS : List (Str × PyData) := [("put", (.tuple [(.tuple [(.str "look")]), (.tuple [(.str "again")]), (.tuple [(.str "key")]), (.tuple [(.str "put")]), (.tuple [(.str "claim")]), (.tuple [(.str "end")])])), ("strike", (.tuple [(.tuple [(.str "look")]), (.tuple [(.str "again")]), (.tuple [(.str "strike")]), (.tuple [(.str "end")])])), ("read", (.tuple [(.tuple [(.str "look")]), (.tuple [(.str "again")]), (.tuple [(.str "view")]), (.tuple [(.str "read")]), (.tuple [(.str "end")])])), ("direct", (.tuple [(.tuple [(.str "border")]), (.tuple [(.str "key")]), (.tuple [(.str "put")]), (.tuple [(.str "claim")]), (.tuple [(.str "end")])])), ("hang", (.tuple [(.tuple [(.str "scan"), (.str "new")]), (.tuple [(.str "scan"), (.str "rest")]), (.tuple [(.str "switch")]), (.tuple [(.str "wait")]), (.tuple [(.str "close")]), (.tuple [(.str "end")])])), ("take", (.tuple [(.tuple [(.str "switch")]), (.tuple [(.str "wait")]), (.tuple [(.str "close")]), (.tuple [(.str "end")])])), ("split", (.tuple [(.tuple [(.str "move")]), (.tuple [(.str "switch")]), (.tuple [(.str "wait")]), (.tuple [(.str "close")]), (.tuple [(.str "end")])])), ("join", (.tuple [(.tuple [(.str "move")]), (.tuple [(.str "switch")]), (.tuple [(.str "wait")]), (.tuple [(.str "close")]), (.tuple [(.str "end")])]))]
def kwg_is_step_0_kind_value {α : Type} : List α → List α → List α
  | [], [w0, w1] => [w1, w0]
  | _, _ => []
/-- what the top has written -/
structure Txt (K : PySem.W.Frag) (mg : Str → Option Value) (w : World) where
  f_NoProgram_init : Addr
  fd_NoProgram_init : FuncData
  F_NoProgram_init : Fun K "__init__" "NoProgram.__init__" s_NoProgram_init f_NoProgram_init fd_NoProgram_init
  b_NoProgram_init : Binds K fd_NoProgram_init ["self", "kind"] []
  f_is_name : Addr
  fd_is_name : FuncData
  F_is_name : Fun K "is_name" "is_name" s_is_name f_is_name fd_is_name
  b_is_name : Binds K fd_is_name ["value"] []
  m_is_name : mg "is_name" = some (.ref f_is_name)
  f_is_kind : Addr
  fd_is_kind : FuncData
  F_is_kind : Fun K "is_kind" "is_kind" s_is_kind f_is_kind fd_is_kind
  b_is_kind : Binds K fd_is_kind ["value"] []
  m_is_kind : mg "is_kind" = some (.ref f_is_kind)
  f_require_kind : Addr
  fd_require_kind : FuncData
  F_require_kind : Fun K "require_kind" "require_kind" s_require_kind f_require_kind fd_require_kind
  b_require_kind : Binds K fd_require_kind ["value"] []
  m_require_kind : mg "require_kind" = some (.ref f_require_kind)
  f_is_step : Addr
  fd_is_step : FuncData
  F_is_step : Fun K "is_step" "is_step" s_is_step f_is_step fd_is_step
  b_is_step : Binds K fd_is_step ["value", "kind"] []
  m_is_step : mg "is_step" = some (.ref f_is_step)
  f_law_cell : Addr
  fd_law_cell : FuncData
  F_law_cell : Fun K "_law_cell" "_law_cell" s_law_cell f_law_cell fd_law_cell
  b_law_cell : Binds K fd_law_cell ["_law_script", "_law_k"] []
  m_law_cell : mg "_law_cell" = some (.ref f_law_cell)
  f_law_box : Addr
  fd_law_box : FuncData
  F_law_box : Fun K "_law_box" "_law_box" s_law_box f_law_box fd_law_box
  b_law_box : Binds K fd_law_box ["_law_cell_here"] []
  m_law_box : mg "_law_box" = some (.ref f_law_box)
  f_law_take : Addr
  fd_law_take : FuncData
  F_law_take : Fun K "_law_take" "_law_take" s_law_take f_law_take fd_law_take
  b_law_take : Binds K fd_law_take ["_law_box_here", "_law_many"] []
  m_law_take : mg "_law_take" = some (.ref f_law_take)
  f_law_mixed : Addr
  fd_law_mixed : FuncData
  F_law_mixed : Fun K "_law_mixed" "_law_mixed" s_law_mixed f_law_mixed fd_law_mixed
  b_law_mixed : Binds K fd_law_mixed ["_law_box_here", "_law_some"] []
  m_law_mixed : mg "_law_mixed" = some (.ref f_law_mixed)
  f_law_names : Addr
  fd_law_names : FuncData
  F_law_names : Fun K "_law_names" "_law_names" s_law_names f_law_names fd_law_names
  b_law_names : Binds K fd_law_names ["_law_box_here", "_law_many"] []
  m_law_names : mg "_law_names" = some (.ref f_law_names)
  f_law_kinds : Addr
  fd_law_kinds : FuncData
  F_law_kinds : Fun K "_law_kinds" "_law_kinds" s_law_kinds f_law_kinds fd_law_kinds
  b_law_kinds : Binds K fd_law_kinds [] []
  m_law_kinds : mg "_law_kinds" = some (.ref f_law_kinds)
  f_law_is_name : Addr
  fd_law_is_name : FuncData
  F_law_is_name : Fun K "_law_is_name" "_law_is_name" s_law_is_name f_law_is_name fd_law_is_name
  b_law_is_name : Binds K fd_law_is_name ["_law_thing"] []
  m_law_is_name : mg "_law_is_name" = some (.ref f_law_is_name)
  f_law_is_step : Addr
  fd_law_is_step : FuncData
  F_law_is_step : Fun K "_law_is_step" "_law_is_step" s_law_is_step f_law_is_step fd_law_is_step
  b_law_is_step : Binds K fd_law_is_step ["_law_thing", "_law_sort"] []
  m_law_is_step : mg "_law_is_step" = some (.ref f_law_is_step)
  f_law_drawn_step : Addr
  fd_law_drawn_step : FuncData
  F_law_drawn_step : Fun K "_law_drawn_step" "_law_drawn_step" s_law_drawn_step f_law_drawn_step fd_law_drawn_step
  b_law_drawn_step : Binds K fd_law_drawn_step ["_law_box_here", "_law_modes"] []
  m_law_drawn_step : mg "_law_drawn_step" = some (.ref f_law_drawn_step)
  f_law_bent : Addr
  fd_law_bent : FuncData
  F_law_bent : Fun K "_law_bent" "_law_bent" s_law_bent f_law_bent fd_law_bent
  b_law_bent : Binds K fd_law_bent ["_law_box_here", "_law_step"] []
  m_law_bent : mg "_law_bent" = some (.ref f_law_bent)
  f_law_told : Addr
  fd_law_told : FuncData
  F_law_told : Fun K "_law_told" "_law_told" s_law_told f_law_told fd_law_told
  b_law_told : Binds K fd_law_told ["_law_thing", "_law_sort"] []
  m_law_told : mg "_law_told" = some (.ref f_law_told)
  f_law : Addr
  fd_law : FuncData
  F_law : Fun K "law" "law" s_law f_law fd_law
  b_law : Binds K fd_law ["_law_script"] []
  m_law : mg "law" = some (.ref f_law)
  k_is_step_0_kind_value : KwB K fd_is_step ["value", "kind"] 0 ["kind", "value"] kwg_is_step_0_kind_value
  C_PartsError : Addr
  g_PartsError : mg "PartsError" = some (.ref C_PartsError)
  C_NoProgram : Addr
  g_NoProgram : mg "NoProgram" = some (.ref C_NoProgram)
  x_NoProgram : OexC K C_NoProgram
  y_NoProgram : XfC K C_NoProgram
  n_NoProgram : PySem.W.findIn K (.ref C_NoProgram) "kind" = some none
  i_NoProgram : PySem.W.findIn K (.ref C_NoProgram) "__init__" = some (some (.ref f_NoProgram_init))
  t_NoProgram : PySem.W.typeIn K (.ref f_NoProgram_init) = some (.type "function")
  e_NoProgram_NoProgram : PySem.W.exmOne K (.ref C_NoProgram) (.ref C_NoProgram) = some true
  A_KINDS : Addr
  c_KINDS : mg "KINDS" = some (.ref A_KINDS)
  A_LOCKS : Addr
  c_LOCKS : mg "LOCKS" = some (.ref A_LOCKS)
  l_LOCKS : ∃ es n, K.lookup A_LOCKS = some ⟨.type "dict", none, .dict es n, #[]⟩ ∧ PySem.W.KeysLit w.params es.toList
  A_STEPS : Addr
  c_STEPS : mg "STEPS" = some (.ref A_STEPS)
  l_STEPS : ∃ es n, K.lookup A_STEPS = some ⟨.type "dict", none, .dict es n, #[]⟩ ∧ PySem.W.KeysLit w.params es.toList
  d_KINDS : datK K 4 (.ref A_KINDS) = some tb_KINDS
  d_LOCKS : tb_LOCKS.map (fun p => nsD K A_LOCKS p.1) = tb_LOCKS.map fun p => some p.2
  d_STEPS : tb_STEPS.map (fun p => nsD K A_STEPS p.1) = tb_STEPS.map fun p => some p.2
  t_LONGEST_NAME : Tok
  c_LONGEST_NAME : mg "LONGEST_NAME" = some (.int 8 t_LONGEST_NAME)
  z_all : mg "all" = none
  z_isinstance : mg "isinstance" = none
  z_str : mg "str" = none
  z_len : mg "len" = none
  z_tuple : mg "tuple" = none
  z_max : mg "max" = none
  z_list : mg "list" = none
  z_range : mg "range" = none
  z_min : mg "min" = none
  z_int : mg "int" = none
  z_bool : mg "bool" = none

theorem locks_in {k : Str} (h : k ∈ kindsL) : (k, strsD (locksT k)) ∈ tb_LOCKS := by
  have e : tb_LOCKS = kindsL.map fun k => (k, strsD (locksT k)) := by kernel_rfl
  rw [e]
  exact List.mem_map.mpr ⟨k, h, rfl⟩
theorem steps_in {k : Str} (h : k ∈ kindsL) : (k, PyData.tuple ((stepsT k).map strsD)) ∈ tb_STEPS := by
  have e : tb_STEPS = kindsL.map fun k => (k, PyData.tuple ((stepsT k).map strsD)) := by kernel_rfl
  rw [e]
  exact List.mem_map.mpr ⟨k, h, rfl⟩
section
variable {P : Program} {w : World} {K : PySem.W.Frag} {mg : Str → Option Value} {base : Heap}
theorem ok_law_cell (T : Txt K mg w) : FnOk P w K mg base CX0 1 T.f_law_cell T.fd_law_cell ["_law_script", "_law_k"] (sp_law_cell K) := by
  refine T.F_law_cell.ok sc_law_cell (fun vs H Q E h => ?_) (fun cdv A outer s H vs Q E hr h => ?_)
  · obtain ⟨a, ns, k, rfl, _⟩ := h
    rfl
  · obtain ⟨a, ns, k, rfl, hS, hk, kq⟩ := h
    refine ⟨_, (pss_cons (ps_if (pt_cmpR op_lt (pv 1) (pe_callB (id := "len") call_len_seq (by rfl) T.z_len (by decide +kernel) (pa_cons (pv 0) pa_nil)) (nomark _)) (pss_one (ps_ret (pe_ix ix_list (pv 0) (pv 1) (fun _ _ => rfl)))) pss_nil)
        (pss_one (ps_ret (pe_op op_add (pe_op op_mul pe_int (pv 1)) pe_int)))), ?_⟩
    refine ⟨_, rfl, _, rfl, a, _, rfl, .inl hS, _, _, rfl, rfl, _, rfl, ?_⟩
    refine ite2 (fun c => ?_) (fun c => ?_)
    · have c' := of_decide_eq_true c
      rw [List.length_map] at c'
      obtain ⟨j, rfl⟩ := Int.eq_ofNat_of_zero_le hk
      have hj : j < ns.length := by omega
      refine ⟨_, rfl, _, rfl, a, _, _, .int ns[j], rfl, rfl, hS, atI_nat (by rw [List.getElem?_map, List.getElem?_eq_getElem hj]; rfl), kq _⟩
    · refine ⟨_, rfl, _, _, rfl, rfl, .inl ⟨by decide, by decide⟩, _, _, rfl, rfl, kq _⟩
theorem ok_law_box (T : Txt K mg w) : FnOk P w K mg base CX0 1 T.f_law_box T.fd_law_box ["_law_cell_here"] sp_law_box := by
  refine T.F_law_box.ok sc_law_box (fun vs H Q E h => ?_) (fun cdv A outer s H vs Q E hr h => ?_)
  · obtain ⟨z, rfl, _⟩ := h
    rfl
  · obtain ⟨z, rfl, k⟩ := h
    refine ⟨_, (pss_one (ps_ret (pe_lst (pa_cons (pe_callB (id := "max") (call_max2 rfl) (by rfl) T.z_max (by decide +kernel) (pa_cons pe_int (pa_cons (pe_op op_sub (pv 0) (pe_op op_pow pe_int pe_int)) pa_nil))) (pa_cons (pe_op op_mod (pv 0) pe_int) (pa_cons pe_int pa_nil)))))), ?_⟩
    refine ⟨_, rfl, _, _, rfl, rfl, ⟨by decide, by decide, by decide⟩, _, _, rfl, rfl, _, _, rfl, ?_⟩
    refine ⟨_, rfl, _, _, rfl, rfl, (by show (0 : Int) < 2147483629; decide), (by show 3 ≤ sizeLine; decide), fun p hp => ?_⟩
    refine k p _ hp ⟨_, _, _, upd_same, ?_, Int.emod_nonneg _ (by decide), Int.emod_lt_of_pos _ (by decide), by decide, by decide⟩
    by_cases c : z - 10 ^ (18 : Int).toNat > 0
    · rw [if_pos c]
      omega
    · rw [if_neg c]
      exact Int.le_refl _
theorem ok_law_take (T : Txt K mg w) : FnOk P w K mg base CX0 1 T.f_law_take T.fd_law_take ["_law_box_here", "_law_many"] sp_law_take := by
  refine T.F_law_take.ok sc_law_take (fun vs H Q E h => ?_) (fun cdv A outer s H vs Q E hr h => ?_)
  · obtain ⟨H0, p, n, m, rfl, _⟩ := h
    rfl
  · obtain ⟨H0, p, n, m, rfl, B, hn, hm, hm2, k⟩ := h
    obtain ⟨d, s, c, hp, hd, hs, hs2, hc, hc2⟩ := B.box
    have hL : SqL K H p [.int d, .int s, .int c] := SqL.of hp
    have nx : ∀ (d' c' : Int), 0 ≤ d' → 0 ≤ c' → c' ≤ c + 1 → BoxIn H0 (upd H p (.lst [.int d', .int s, .int c'])) p (n + 1) := fun d' c' h1 h2 h3 =>
      ⟨fun x u e => by rw [upd_ne (ne_of_none e B.free)]; exact B.same _ _ e, B.free, d', s, c', upd_same, h1, hs, hs2, h2, by omega⟩
    refine ⟨_, (pss_cons (ps_if (pt_cmpR op_gt (pe_ix ix_list (pv 0) pe_int (fun _ _ => rfl)) pe_int (nomark _)) (pss_cons (ps_set (i := 2) sc_law_take.nd rfl (Or.inl rfl) (pe_op op_mod (pe_ix ix_list (pv 0) pe_int (fun _ _ => rfl)) (pv 1)))
        (pss_cons (ps_asg (pe_op op_fdiv (pe_ix ix_list (pv 0) pe_int (fun _ _ => rfl)) (pv 1)) (pg_sub (pv 0) pe_int set_list))
        (pss_one (ps_ret (pv 2))))) pss_nil)
        (pss_cons (ps_asg (pe_op op_add (pe_ix ix_list (pv 0) pe_int (fun _ _ => rfl)) pe_int) (pg_sub (pv 0) pe_int set_list))
        (pss_cons (ps_set (i := 3) sc_law_take.nd rfl (Or.inl rfl) (pe_op op_mod (pe_op op_pow (pe_op op_add (pe_op op_add (pe_ix ix_list (pv 0) pe_int (fun _ _ => rfl)) (pe_op op_mul pe_int (pe_ix ix_list (pv 0) pe_int (fun _ _ => rfl)))) pe_int) pe_int) pe_int))
        (pss_cons (ps_set (i := 3) sc_law_take.nd rfl (Or.inl rfl) (pe_op op_mod (pe_op op_pow (pe_op op_add (pv 3) (pe_op op_mul pe_int (pe_ix ix_list (pv 0) pe_int (fun _ _ => rfl)))) pe_int) pe_int))
        (pss_one (ps_ret (pe_op op_mod (pe_op op_fdiv (pv 3) pe_int) (pv 1)))))))), ?_⟩
    refine ⟨_, rfl, p, _, _, _, rfl, rfl, hL, atI_nat (j := 0) rfl, _, _, rfl, rfl, _, rfl, ?_⟩
    refine ite2 (fun c0 => ?_) (fun c0 => ?_)
    · have c0' := of_decide_eq_true c0
      refine ⟨_, rfl, p, _, _, _, rfl, rfl, hL, atI_nat (j := 0) rfl, _, rfl, _, _, rfl, rfl, hm, ?_⟩
      refine ⟨_, rfl, p, _, _, _, rfl, rfl, hL, atI_nat (j := 0) rfl, _, rfl, _, _, rfl, rfl, ⟨hm, by omega⟩, ?_⟩
      refine ⟨_, rfl, p, _, _, 0, rfl, rfl, hp, rfl, ?_⟩
      refine ⟨_, rfl, k _ _ (Int.emod_nonneg _ (by omega)) (Int.emod_lt_of_pos _ hm) (nx _ _ (Int.ediv_nonneg hd (by omega)) hc (by omega))⟩
    · refine ⟨_, rfl, p, _, _, _, rfl, rfl, hL, atI_nat (j := 2) rfl, _, _, rfl, rfl, ?_⟩
      refine ⟨_, rfl, p, _, _, 2, rfl, rfl, hp, rfl, ?_⟩
      have hL' : SqL K (upd H p (.lst [.int d, .int s, .int (c + 1)])) p [.int d, .int s, .int (c + 1)] := SqL.of upd_same
      refine ⟨_, rfl, p, _, _, _, rfl, rfl, hL', atI_nat (j := 1) rfl, _, rfl, p, _, _, _, rfl, rfl, hL', atI_nat (j := 2) rfl, _, _, rfl, rfl, .inl ⟨by decide, by decide⟩, _, _, rfl, rfl, _, _, rfl, rfl, _, _, rfl, rfl, ⟨by decide, by decide, by omega⟩, _, _, rfl, rfl, (by show (0 : Int) < 2147483647; decide), ?_⟩
      have h1 := Int.emod_nonneg ((s + 7919 * (c + 1) + 43) ^ (5 : Int).toNat) (show (2147483647 : Int) ≠ 0 by decide)
      have h2 := Int.emod_lt_of_pos ((s + 7919 * (c + 1) + 43) ^ (5 : Int).toNat) (show (0 : Int) < 2147483647 by decide)
      refine ⟨_, rfl, _, rfl, p, _, _, _, rfl, rfl, hL', atI_nat (j := 2) rfl, _, _, rfl, rfl, .inl ⟨by decide, by decide⟩, _, _, rfl, rfl, _, _, rfl, rfl, ⟨by decide, by decide, by omega⟩, _, _, rfl, rfl, (by show (0 : Int) < 2147483587; decide), ?_⟩
      refine ⟨_, rfl, _, _, rfl, rfl, ⟨by decide, by decide⟩, _, rfl, _, _, rfl, rfl, hm, ?_⟩
      exact k _ _ (Int.emod_nonneg _ (by omega)) (Int.emod_lt_of_pos _ hm) (nx _ _ hd (by omega) (by omega))
theorem ok_law_mixed (T : Txt K mg w) : FnOk P w K mg base CX0 2 T.f_law_mixed T.fd_law_mixed ["_law_box_here", "_law_some"] sp_mixed := by
  refine T.F_law_mixed.ok sc_law_mixed (fun vs H Q E h => ?_) (fun cdv A outer s H vs Q E hr h => ?_)
  · obtain ⟨H0, p, l, n, xs, rfl, _⟩ := h
    rfl
  · obtain ⟨H0, p, l, n, xs, rfl, B, hl, hz, hn, k⟩ := h
    refine ⟨_, (pss_cons (ps_set (i := 2) sc_law_mixed.nd rfl (Or.inr rfl) (pe_callTy (T := "list") call_list_of (by rfl) T.z_list (by decide +kernel) (pa_cons (pv 1) pa_nil)))
        (pss_one (ps_ret (pe_lc (own := [("_law_k", 3)]) (g := gName 3) (tt := tYes) rfl sc_law_mixed.nd (pi_range1 rfl T.z_range (pa_cons (pe_callB (id := "len") call_len_seq (by rfl) T.z_len (by decide +kernel) (pa_cons (pv 1) pa_nil)) pa_nil)) (blkOk_by (own := [("_law_k", 3)]) (N := ["_law_box_here", "_law_some", "_law_left", "_law_k"]) (sc := defScope s_law_mixed) (by decide +kernel)) (fun _ _ _ _ _ => (pg_name (i := 3) sc_law_mixed.nd rfl (Or.inl rfl))) (fun _ _ _ _ _ => pts_nil) (fun _ _ _ _ _ => (show PE _ _ (tBM K "list" rPopAt _ _) from (pe_bm PySem.F.plainAttrs_list PySem.F.slot_list_pop PySem.F.type_list_pop (r := rPopAt) mt_popAt (pv 2) (pa_cons (pe_call (ok_law_take T) hr rfl T.m_law_take T.F_law_take.kp T.b_law_take .nil pass0 (pa_cons (pv 0) (pa_cons (pe_callB (id := "len") (r := fun xs H Q => ∃ p ys, xs = [.ref p] ∧ (SqL K H p ys ∨ SqT K H p ys) ∧ Q (.int ys.length) H) call_len_seq (by rfl) T.z_len (by decide +kernel) (pa_cons (pv 2) pa_nil)) pa_nil))) pa_nil)))))))), ?_⟩
    have hS : SqL K H l xs := SqL.of hl
    have pn : ∀ {H' : Hp} {m : Nat}, BoxIn H0 H' p m → ∀ {t : Addr}, H' t = none → t ≠ p := fun {H' m} b {t} h => by
      obtain ⟨_, _, _, hp, _⟩ := b.box
      exact (ne_of_none hp h).symm
    refine ⟨_, rfl, l, xs, rfl, .inl hS, fun t ht => ?_⟩
    have htp := pn B ht
    have nlt : l ≠ t := ne_of_none hl ht
    have B1 : BoxIn H0 (upd H t (.lst xs)) p n := B.keep (same_new ht)
    refine ⟨_, rfl, l, xs, rfl, .inl (SqL.of (by rw [upd_ne nlt]; exact hl)), xs.length, rfl, by omega, by omega, fun D hD => ?_⟩
    have hDp := pn B1 hD
    have hDt : D ≠ t := fun e => by
      rw [e, upd_same] at hD
      cases hD
    have hD0 : H0 D = none := B1.same.free hD
    have ht0 : H0 t = none := B.same.free ht
    refine lc_range (fun i H2 => ∃ acc left : List V, H2 D = some (.lst acc) ∧ acc.length = i ∧ H2 t = some (.lst left) ∧ (acc ++ left).Perm xs ∧ BoxIn H0 H2 p (n + i)) ⟨[], xs, upd_same, rfl, by rw [upd_ne hDt.symm, upd_same], List.Perm.refl _, B1.mut hDp hD0⟩ ?_ ?_
    · rintro i H2 hi ⟨acc, left, hl2, hy, ht2, hpm, B2⟩
      have hll : left.length = xs.length - i := by
        have := hpm.length_eq
        rw [List.length_append] at this
        omega
      have B2' := B2.all
      refine ⟨rfl, tyes ⟨_, rfl, .inl ⟨rfl, _, .inl (.inl ht2)⟩, _, rfl, _, rfl, t, left, rfl, .inl (SqL.of ht2), but H2 p, p, _, _, rfl, B2'.1, by omega, by omega, by omega, fun z H3 z0 z1 B3 => ?_⟩⟩
      obtain ⟨j, rfl⟩ := Int.eq_ofNat_of_zero_le z0
      have hj : j < left.length := by omega
      have ht3 : H3 t = some (.lst left) := B3.same _ _ (by rw [but_ne htp]; exact ht2)
      have hl3 : H3 D = some (.lst acc) := B3.same _ _ (by rw [but_ne hDp]; exact hl2)
      have hsi : seqIndex? (j : Int) left.length = some j := by
        unfold seqIndex?
        have e1 : ¬ ((j : Int) < 0) := by omega
        simp only [e1, if_false]
        rw [if_pos (by simp; omega)]
        simp
      refine ⟨t, left, (j : Int), j, left[j], rfl, rfl, ht3, by omega, by omega, hsi, List.getElem?_eq_getElem hj, acc, by rw [upd_ne hDt]; exact hl3, Nat.lt_of_lt_of_le (show acc.length < 200 by omega) (by decide), acc ++ [left[j]], left.eraseIdx j, upd_same, by simp [hy], by rw [upd_ne hDt.symm, upd_same], ?_, ?_⟩
      · refine List.Perm.trans ?_ hpm
        rw [List.append_assoc]
        refine List.Perm.append_left _ ?_
        rw [List.eraseIdx_eq_take_drop_succ]
        have e : left = left.take j ++ left[j] :: left.drop (j + 1) := by
          rw [List.getElem_cons_drop, List.take_append_drop]
        have q : (left.take j ++ left[j] :: left.drop (j + 1)).Perm (left[j] :: (left.take j ++ left.drop (j + 1))) := List.perm_middle
        exact q.symm.trans (List.Perm.of_eq e.symm)
      · exact ((B3.low B2'.2).mut htp ht0).mut hDp hD0
    · rintro H2 ⟨acc, left, hl2, hy, ht2, hpm, B2⟩
      have e : left = [] := by
        have := hpm.length_eq
        rw [List.length_append] at this
        exact List.length_eq_zero_iff.mp (by omega)
      rw [e, List.append_nil] at hpm
      exact k D H2 acc B2.same hD0 hDp hl2 hpm B2
theorem ok_law_names (T : Txt K mg w) : FnOk P w K mg base CX0 3 T.f_law_names T.fd_law_names ["_law_box_here", "_law_many"] sp_names := by
  refine T.F_law_names.ok sc_law_names (fun vs H Q E h => ?_) (fun cdv A outer s H vs Q E hr h => ?_)
  · obtain ⟨H0, p, n, m, rfl, _⟩ := h
    rfl
  · obtain ⟨H0, p, n, m, rfl, B, hm, hn, k⟩ := h
    refine ⟨_, (pss_cons (ps_set (i := 2) sc_law_names.nd rfl (Or.inl rfl) pe_str)
        (pss_cons (ps_if (pt_cmpR op_eq (pe_call (ok_law_take T) (hr.mono (by decide)) rfl T.m_law_take T.F_law_take.kp T.b_law_take .nil pass0 (pa_cons (pv 0) (pa_cons pe_int pa_nil))) pe_int (nomark _)) (pss_cons (ps_set (i := 3) sc_law_names.nd rfl (Or.inl rfl) (pe_lst (pa_cons pe_str (pa_cons pe_str (pa_cons pe_str (pa_cons pe_str (pa_cons pe_str (pa_cons pe_str (pa_cons pe_str (pa_cons pe_str (pa_cons pe_str (pa_cons pe_str (pa_cons pe_str (pa_cons pe_str (pa_cons pe_str pa_nil)))))))))))))))
        (pss_one (ps_ret (pe_slice sl_list (pe_call (ok_law_mixed T) hr rfl T.m_law_mixed T.F_law_mixed.kp T.b_law_mixed .nil pass0 (pa_cons (pv 0) (pa_cons (pv 3) pa_nil))) po_none (po_some (pv 1)))))) pss_nil)
        (pss_cons (ps_set (i := 4) sc_law_names.nd rfl (Or.inl rfl) (pe_ix ix_list (pe_lst (pa_cons pe_str (pa_cons pe_str (pa_cons pe_str (pa_cons pe_str (pa_cons pe_str (pa_cons pe_str pa_nil))))))) (pe_call (ok_law_take T) (hr.mono (by decide)) rfl T.m_law_take T.F_law_take.kp T.b_law_take .nil pass0 (pa_cons (pv 0) (pa_cons pe_int pa_nil))) (fun _ _ => rfl)))
        (pss_cons (ps_par3 (i := 5) (j := 6) (l := 7) (by rfl) sc_law_names.nd rfl rfl rfl (by decide) (by decide) (by decide) rfl rfl rfl (pa_cons (pe_call (ok_law_take T) (hr.mono (by decide)) rfl T.m_law_take T.F_law_take.kp T.b_law_take .nil pass0 (pa_cons (pv 0) (pa_cons pe_int pa_nil))) (pa_cons (pe_ix ix_list (pe_lst (pa_cons pe_int (pa_cons pe_int (pa_cons pe_int (pa_cons pe_int (pa_cons pe_int (pa_cons pe_int pa_nil))))))) (pe_call (ok_law_take T) (hr.mono (by decide)) rfl T.m_law_take T.F_law_take.kp T.b_law_take .nil pass0 (pa_cons (pv 0) (pa_cons pe_int pa_nil))) (fun _ _ => rfl)) (pa_cons (pe_call (ok_law_take T) (hr.mono (by decide)) rfl T.m_law_take T.F_law_take.kp T.b_law_take .nil pass0 (pa_cons (pv 0) (pa_cons pe_int pa_nil))) pa_nil))) (by rfl))
        (pss_cons (ps_set (i := 8) sc_law_names.nd rfl (Or.inl rfl) (pe_lst pa_nil))
        (pss_cons (ps_for PassesOwn.never rfl (pi_range1 rfl T.z_range (pa_cons (pv 1) pa_nil)) (pg_name (i := 9) sc_law_names.nd rfl (Or.inl rfl))
          (pss_cons (ps_set (i := 10) sc_law_names.nd rfl (Or.inl rfl) (pe_ix ix_str (pv 2) (pe_op op_mod (pe_op op_add (pv 5) (pe_op op_mul (pv 6) (pv 9))) pe_int) (fun _ _ => rfl)))
        (pss_cons (ps_set (i := 11) sc_law_names.nd rfl (Or.inl rfl) (pe_ix ix_list (pe_lst (pa_cons (pe_op op_add_str (pv 4) (pv 10)) (pa_cons (pe_op op_add_str (pv 10) (pv 4)) (pa_cons (pv 10) pa_nil)))) (pe_ifExp (pt_cmpR op_gt (pv 9) pe_int (nomark _)) (pv 7) pe_int) (fun _ _ => rfl)))
        (pss_one (ps_expr (pe_bm PySem.F.plainAttrs_list PySem.F.slot_list_append PySem.F.type_list_append mt_append (pv 8) (pa_cons (pe_ifExp (pt_cmpR op_eq (pv 11) pe_str (nomark _)) pe_str (pv 11)) pa_nil)))))))
        (pss_one (ps_ret (pv 8))))))))), ?_⟩
    have pn : ∀ {H0 H' : Hp} {m : Nat}, BoxIn H0 H' p m → ∀ {t : Addr}, H' t = none → t ≠ p := fun {H0 H' m} b {t} h => by
      obtain ⟨_, _, _, hp, _⟩ := b.box
      exact (ne_of_none hp h).symm
    refine ⟨_, rfl, H0, p, n, 7, rfl, B, by omega, by decide, by decide, fun z1 H1 z10 z11 B1 => ⟨rfl, _, rfl, ?_⟩⟩
    refine ite2 (fun c => ?_) (fun c => ?_)
    · refine ⟨(by show 13 ≤ sizeLine; decide), fun l hl => ?_⟩
      have B2 := B1.keep (same_new (o := .lst ((["begin", "empty", "rest", "step", "end", "look", "old", "new", "put", "part", "move", "split", "lock"] : List Str).map V.str)) hl)
      have hlp := pn B1 hl
      refine ⟨_, rfl, _, rfl, H0, p, l, _, (["begin", "empty", "rest", "step", "end", "look", "old", "new", "put", "part", "move", "split", "lock"] : List Str).map V.str, rfl, B2, upd_same, by decide, by show n + 1 + 13 < 1000000; omega, fun q H3 ys s3 hq0 hqp hq3 hpm B3 => ?_⟩
      obtain ⟨ss, rfl, hss⟩ := strs_of (xs := ys) (W := ["begin", "empty", "rest", "step", "end", "look", "old", "new", "put", "part", "move", "split", "lock"]) fun y hy => by
        obtain ⟨s, hs, e⟩ := List.mem_map.mp (hpm.mem_iff.mp hy)
        exact ⟨s, hs, e.symm⟩
      have hlen : ss.length = 13 := by
        have := hpm.length_eq
        rw [List.length_map, List.length_map] at this
        exact this
      refine ⟨_, rfl, m, rfl, q, _, rfl, SqL.of hq3, fun r hr => ?_⟩
      have e : cutV (ss.map V.str) none (some (m : Int)) = (ss.take m).map V.str := by
        unfold cutV
        rw [HT.sIx_none, HT.sIx_nat, List.length_map, hlen, List.drop_zero, Nat.sub_zero, List.map_take, Nat.min_eq_left hm]
      rw [e]
      have all : ∀ s ∈ (["begin", "empty", "rest", "step", "end", "look", "old", "new", "put", "part", "move", "split", "lock"] : List Str), sOk 16 s := by
        unfold sOk
        decide +kernel
      refine k r _ (ss.take m) (s3.trans (same_new hr)) (s3.free hr) (pn B3 hr) upd_same ?_ (fun s hs => all s (hss s (List.mem_of_mem_take hs))) ((B3.keep (same_new hr)).mono (by show n + 1 + 13 ≤ n + 40; omega))
      rw [List.length_take, hlen]
      omega
    · refine ⟨(by show 6 ≤ sizeLine; decide), fun l hl => ?_⟩
      have B2 := B1.new (o := .lst ((["", "a", "tabl", "rest", "part", "zzzzzzz"] : List Str).map V.str)) hl
      refine ⟨_, rfl, _, p, _, 6, rfl, B2.1, by omega, by decide, by decide, fun z2 H2 z20 z21 B3 => ?_⟩
      obtain ⟨v, hv, hm1⟩ := atI_in (xs := (["", "a", "tabl", "rest", "part", "zzzzzzz"] : List Str).map V.str) z20 z21
      refine ⟨l, _, z2, v, rfl, rfl, SqL.of (B3.same _ _ upd_same), hv, ?_⟩
      obtain ⟨stem, hst, rfl⟩ := List.mem_map.mp hm1
      have hstem : sOk 7 stem := by
        have all : ∀ s ∈ (["", "a", "tabl", "rest", "part", "zzzzzzz"] : List Str), sOk 7 s := by
          unfold sOk
          decide +kernel
        exact all _ hst
      have B4 := B3.low B2.2
      refine ⟨_, rfl, H0, p, _, 26, rfl, B4, by omega, by decide, by decide, fun zf H3 zf0 zf1 B5 => ?_⟩
      refine ⟨(by show 6 ≤ sizeLine; decide), fun l2 hl2 => ?_⟩
      have B6 := B5.new (o := .lst ([1, 3, 5, 7, 9, 11].map V.int)) hl2
      refine ⟨_, rfl, _, p, _, 6, rfl, B6.1, by omega, by decide, by decide, fun z3 H4 z30 z31 B7 => ?_⟩
      obtain ⟨v3, hv3, hm3⟩ := atI_in (xs := ([1, 3, 5, 7, 9, 11] : List Int).map V.int) z30 z31
      refine ⟨l2, _, z3, v3, rfl, rfl, SqL.of (B7.same _ _ upd_same), hv3, ?_⟩
      obtain ⟨stp, hstp, rfl⟩ := List.mem_map.mp hm3
      have B8 := B7.low B6.2
      refine ⟨_, rfl, H0, p, _, 3, rfl, B8, by omega, by decide, by decide, fun zw H5 zw0 zw1 B9 => ⟨_, _, _, rfl, ?_⟩⟩
      refine ⟨(by show 0 ≤ sizeLine; decide), fun f hf => ?_⟩
      have hfp := pn B9 hf
      have hf0 : H0 f = none := B9.same.free hf
      refine ⟨_, rfl, m, rfl, ?_, ?_, for_range (fun i σ H' => ∃ (v3 v9 v10 v11 : Option V) (ss : List Str), σ = [some (.ref p), some (.int m), some (.str "abcdefghijklmnopqrstuvwxyz"), v3, some (.str stem), some (.int zf), some (.int stp), some (.int zw), some (.ref f), v9, v10, v11] ∧ H' f = some (.lst (ss.map V.str)) ∧ ss.length = i ∧ (∀ s ∈ ss, sOk 16 s) ∧ BoxIn H0 H' p (n + 5)) ⟨_, none, none, none, [], rfl, upd_same, rfl, (fun s h => by cases h), B9.mut hfp hf0⟩ ?_ ?_⟩
      · omega
      · omega
      · rintro i σ H6 hi ⟨v3, v9, v10, v11, ss, rfl, hff, hlen, hok, C⟩
        have hstp2 : 0 ≤ stp ∧ stp ≤ 11 := by
          have all : ∀ i ∈ ([1, 3, 5, 7, 9, 11] : List Int), 0 ≤ i ∧ i ≤ 11 := by decide
          exact all _ hstp
        refine ⟨_, rfl, _, rfl, _, rfl, _, rfl, _, _, rfl, rfl, .inl ⟨by omega, by omega⟩, _, _, rfl, rfl, _, _, rfl, rfl, (by show (0 : Int) < 26; decide), ?_⟩
        have e26 : ("abcdefghijklmnopqrstuvwxyz" : Str).cps.toList.length = 26 := by decide +kernel
        obtain ⟨ch, hch, hmc⟩ := atI_in (xs := ("abcdefghijklmnopqrstuvwxyz" : Str).cps.toList) (z := (zf + stp * (0 + (i : Int))) % 26) (Int.emod_nonneg _ (by decide)) (by rw [e26]; exact Int.emod_lt_of_pos _ (by decide))
        have hsg : sOk 1 (⟨#[ch]⟩ : Str) := by
          refine ⟨Nat.le_refl _, strOk_sign ?_⟩
          have all : ∀ c ∈ ("abcdefghijklmnopqrstuvwxyz" : Str).cps.toList, c < 0x110000 := by decide +kernel
          exact all _ hmc
        refine ⟨_, _, ch, rfl, rfl, by decide +kernel, hch, ?_⟩
        have l1 : stem.length + (⟨#[ch]⟩ : Str).length ≤ sizeLine := Nat.le_trans (Nat.add_le_add hstem.1 hsg.1) (by decide)
        have l2' : (⟨#[ch]⟩ : Str).length + stem.length ≤ sizeLine := Nat.le_trans (Nat.add_le_add hsg.1 hstem.1) (by decide)
        refine ⟨_, rfl, _, rfl, _, _, rfl, rfl, l1, _, rfl, _, rfl, _, _, rfl, rfl, l2', _, rfl, (by show 3 ≤ sizeLine; decide), fun l3 hl3 => ?_⟩
        have hfl3 : f ≠ l3 := ne_of_none hff hl3
        have C2 := C.keep (same_new (o := .lst [V.str (stem ++ ⟨#[ch]⟩), .str ((⟨#[ch]⟩ : Str) ++ stem), .str ⟨#[ch]⟩]) hl3)
        have pick : ∀ z : Int, 0 ≤ z → z < 3 → ∃ s : Str, atI [V.str (stem ++ ⟨#[ch]⟩), .str ((⟨#[ch]⟩ : Str) ++ stem), .str ⟨#[ch]⟩] z = some (.str s) ∧ sOk 16 s := fun z z0 z3 => by
          obtain ⟨v, hv, hm⟩ := atI_in (xs := [V.str (stem ++ ⟨#[ch]⟩), .str ((⟨#[ch]⟩ : Str) ++ stem), .str ⟨#[ch]⟩]) z0 z3
          simp only [List.mem_cons, List.not_mem_nil, or_false] at hm
          rcases hm with rfl | rfl | rfl
          · exact ⟨_, hv, (hstem.app hsg).mono (by decide)⟩
          · exact ⟨_, hv, (hsg.app hstem).mono (by decide)⟩
          · exact ⟨_, hv, hsg.mono (by decide)⟩
        have hff2 : upd H6 l3 (.lst [V.str (stem ++ ⟨#[ch]⟩), .str ((⟨#[ch]⟩ : Str) ++ stem), .str ⟨#[ch]⟩]) f = some (.lst (ss.map V.str)) := by rw [upd_ne hfl3]; exact hff
        have hsz : (ss.map V.str).length < sizeLine := by
          rw [List.length_map, hlen]
          exact Nat.lt_of_lt_of_le (show i < 100 by omega) (by decide)
        have nx : ∀ s : Str, sOk 16 s → upd (upd H6 l3 (.lst [V.str (stem ++ ⟨#[ch]⟩), .str ((⟨#[ch]⟩ : Str) ++ stem), .str ⟨#[ch]⟩])) f (.lst (ss.map V.str ++ [V.str s])) f = some (.lst ((ss ++ [s]).map V.str)) ∧ (ss ++ [s]).length = i + 1 ∧ (∀ x ∈ ss ++ [s], sOk 16 x) ∧
            BoxIn H0 (upd (upd H6 l3 (.lst [V.str (stem ++ ⟨#[ch]⟩), .str ((⟨#[ch]⟩ : Str) ++ stem), .str ⟨#[ch]⟩])) f (.lst (ss.map V.str ++ [V.str s]))) p (n + 5) := fun s hs => by
          refine ⟨by rw [upd_same, List.map_append]; rfl, by simp [hlen], fun x hx => ?_, C2.mut hfp hf0⟩
          rcases List.mem_append.mp hx with q | q
          · exact hok x q
          · rw [List.mem_singleton.mp q]
            exact hs
        refine ⟨_, rfl, _, _, rfl, rfl, _, rfl, ?_⟩
        refine ite2 (fun c => ?_) (fun c => ?_)
        · obtain ⟨nm, hnm, hok2⟩ := pick zw zw0 zw1
          refine ⟨_, rfl, l3, _, zw, _, rfl, rfl, SqL.of upd_same, hnm, ?_⟩
          refine ⟨_, rfl, .inl ⟨rfl, _, .inl (.inl hff2)⟩, _, rfl, rfl, _, rfl, ?_⟩
          refine ite2 (fun c => ?_) (fun c => ?_)
          · obtain ⟨n1, n2, n3, n4⟩ := nx "tables" (by unfold sOk; decide +kernel)
            exact ⟨f, _, _, rfl, rfl, hff2, hsz, _, _, _, _, _, rfl, n1, n2, n3, n4⟩
          · obtain ⟨n1, n2, n3, n4⟩ := nx nm hok2
            exact ⟨_, rfl, f, _, _, rfl, rfl, hff2, hsz, _, _, _, _, _, rfl, n1, n2, n3, n4⟩
        · obtain ⟨nm, hnm, hok2⟩ := pick 0 (by decide) (by decide)
          refine ⟨l3, _, 0, _, rfl, rfl, SqL.of upd_same, hnm, ?_⟩
          refine ⟨_, rfl, .inl ⟨rfl, _, .inl (.inl hff2)⟩, _, rfl, rfl, _, rfl, ?_⟩
          refine ite2 (fun c => ?_) (fun c => ?_)
          · obtain ⟨n1, n2, n3, n4⟩ := nx "tables" (by unfold sOk; decide +kernel)
            exact ⟨f, _, _, rfl, rfl, hff2, hsz, _, _, _, _, _, rfl, n1, n2, n3, n4⟩
          · obtain ⟨n1, n2, n3, n4⟩ := nx nm hok2
            exact ⟨_, rfl, f, _, _, rfl, rfl, hff2, hsz, _, _, _, _, _, rfl, n1, n2, n3, n4⟩
      · rintro σ H6 ⟨v3, v9, v10, v11, ss, rfl, hff, hlen, hok, C⟩
        refine ⟨_, rfl, ?_⟩
        exact k f H6 ss C.same hf0 hfp hff (by rw [hlen]; simp) hok (C.mono (by omega))
theorem ok_is_name (T : Txt K mg w) : FnOk P w K mg base CX0 1 T.f_is_name T.fd_is_name ["value"] (sp_v1 K nameO) := by
  refine T.F_is_name.ok sc_is_name (fun vs H Q E h => ?_) (fun cdv A outer s H vs Q E hr h => ?_)
  · obtain ⟨v, o, rfl, _⟩ := h
    rfl
  · obtain ⟨v, o, rfl, hv, k⟩ := h
    have ty := hv.ty
    refine ⟨_, (pss_cons (ps_if (PW.pt (pw_or (pt_not (pt_val (pe_callB (id := "isinstance") call_isi (by rfl) T.z_isinstance (by decide +kernel) (pa_cons (pv 0) (pa_cons (pe_bltn (v := .ty "str") (u := .type "str") (by rfl) T.z_str (by decide +kernel) rfl) pa_nil))))) (pw_or1 (pt_cmpR op_eq (pv 0) pe_str (nomark _))))) (pss_one (ps_ret pe_bl)) pss_nil)
        (pss_one (ps_ret (pe_and (pe_chain op_le op_le pe_int (pe_callB (id := "len") call_len_str (by rfl) T.z_len (by decide +kernel) (pa_cons (pv 0) pa_nil)) (pe_glob (v := .int 8) rfl T.c_LONGEST_NAME ⟨_, rfl⟩)) (pe_one (pe_callB (id := "all") (cr_all rfl) (by rfl) T.z_all (by decide +kernel) (pa_cons (pe_lc (own := [("sign", 1)]) (g := gName 1) (tt := tYes) rfl sc_is_name.nd (pi_str (pv 0)) (blkOk_by (own := [("sign", 1)]) (N := ["value", "sign"]) (sc := defScope s_is_name) (by decide +kernel)) (fun _ _ _ _ _ => (pg_name (i := 1) sc_is_name.nd rfl (Or.inl rfl))) (fun _ _ _ _ _ => pts_nil) (fun _ _ _ _ _ => (pe_chain op_le_str op_le_str pe_str (pv 1) pe_str))) pa_nil))))))), ?_⟩
    refine ⟨_, rfl, _, _, _, _, _, rfl, .ty _, ty, kit_o o (.inr (.inr (.inl rfl))), _, rfl, ?_⟩
    cases e : isT "str" o with
    | false =>
      have e2 : nameO o = false := by
        rcases o with _ | d
        · rfl
        · cases d with
          | str s => cases e
          | _ => rfl
      rw [e2] at k
      exact iteT (iteT (k H (Same.refl H)))
    | true =>
      obtain ⟨s, rfl, rfl, hs⟩ : ∃ s, v = .str s ∧ o = some (.str s) ∧ s.length ≤ 1000 := by
        cases hv with
        | dat a _ c =>
          cases a with
          | str s => exact ⟨s, rfl, rfl, c s rfl⟩
          | _ => cases e
        | dic a => cases e
      have hz : s.length ≤ sizeLine := Nat.le_trans hs (by decide)
      refine iteF ⟨_, rfl, rfl, _, rfl, ?_⟩
      have k : ∀ H', Same H H' → Q (.bl (nameS s)) H' := k
      unfold nameS at k
      rw [dec_str]
      cases e1 : s == ("table" : Str) with
      | true =>
        rw [e1] at k
        exact iteT (k H (Same.refl H))
      | false =>
        rw [e1] at k
        refine iteF ?_
        have k : ∀ H', Same H H' → Q (.bl (decide ((1 : Int) ≤ s.length) && (decide ((s.length : Int) ≤ 8) && s.cps.toList.all okSign))) H' := k
        refine ⟨_, rfl, _, rfl, hz, _, _, rfl, rfl, _, rfl, ?_⟩
        cases e2 : decide ((1 : Int) ≤ s.length) with
        | false =>
          rw [e2] at k
          exact iteF ⟨_, rfl, iteF (k H (Same.refl H))⟩
        | true =>
          rw [e2] at k
          refine iteT ⟨_, _, rfl, rfl, _, rfl, ?_⟩
          cases e3 : decide ((s.length : Int) ≤ 8) with
          | false =>
            rw [e3] at k
            exact iteF (k H (Same.refl H))
          | true =>
            rw [e3] at k
            refine iteT ⟨_, rfl, _, rfl, ?_⟩
            intro D hD
            refine lc_acc walk_str hD (fun _ _ => trivial) (fun i => (s.cps.toList.take i).map fun c => V.bl (okSign c)) rfl (fun i hi => ?_) ?_ ?_
            · rw [List.length_map, List.length_take]
              have : s.cps.size ≤ 1000 := hs
              exact Nat.lt_of_le_of_lt (Nat.min_le_left _ _) (Nat.lt_of_lt_of_le hi (Nat.le_trans this (by decide)))
            · rintro i x H2 hi ⟨c, hc, rfl⟩ s1 R S r1 r2
              have ea : ((s.cps.toList.take (i + 1)).map fun c => V.bl (okSign c)) = ((s.cps.toList.take i).map fun c => V.bl (okSign c)) ++ [V.bl (okSign c)] := by
                have hc' : s.cps.toList[i]? = some c := by rw [Array.getElem?_toList]; exact hc
                rw [List.take_add_one, hc']
                simp
              refine ⟨rfl, tyes ⟨_, rfl, _, _, rfl, rfl, _, rfl, ?_⟩⟩
              have ec : okSign c = (!decide (([c] : List Nat) < [97]) && !decide (([122] : List Nat) < [c])) := rfl
              have ea1 : ("a" : Str).cps.toList = [97] := by decide +kernel
              have ez1 : ("z" : Str).cps.toList = [122] := by decide +kernel
              rw [ea1]
              cases e4 : (!decide (([c] : List Nat) < [97])) with
              | false =>
                rw [e4] at ec
                refine iteF (r1 _ _ ?_ (Same.refl _))
                rw [ea, ec]
                rfl
              | true =>
                rw [e4] at ec
                refine iteT ⟨_, _, rfl, rfl, r1 _ _ ?_ (Same.refl _)⟩
                rw [ea, ec, ez1]
                rfl
            · intro H2 s1 hl
              refine ⟨D, s.cps.toList.map okSign, rfl, SqL.of ?_, ?_⟩
              · rw [hl, List.map_map]
                have : s.cps.toList.take s.cps.size = s.cps.toList := by rw [← Array.length_toList, List.take_length]
                rw [this]
                rfl
              · have := k H2 s1
                rw [List.all_map]
                exact this
theorem ok_NoProgram_init (T : Txt K mg w) : FnOk P w K mg base CX0 1 T.f_NoProgram_init T.fd_NoProgram_init ["self", "kind"] (sp_xinit K T.C_NoProgram "kind") := by
  refine T.F_NoProgram_init.ok sc_NoProgram_init (fun vs H Q E h => ?_) (fun cdv A outer s H vs Q E hr h => ?_)
  · obtain ⟨a, v, rfl, _⟩ := h
    rfl
  · obtain ⟨a, v, rfl, x, n, ha, k⟩ := h
    refine ⟨_, (pss_one (ps_ost (pv 0) (pv 1))), ?_⟩
    exact ⟨_, rfl, _, rfl, a, T.C_NoProgram, rfl, x, n, .inl ⟨ha, k⟩⟩
theorem ok_is_kind (T : Txt K mg w) : FnOk P w K mg base CX0 1 T.f_is_kind T.fd_is_kind ["value"] (sp_kind K) := by
  refine T.F_is_kind.ok sc_is_kind (fun vs H Q E h => ?_) (fun cdv A outer s H vs Q E hr h => ?_)
  · obtain ⟨v, d, rfl, _⟩ := h
    rfl
  · obtain ⟨v, d, rfl, hd, sd, k⟩ := h
    refine ⟨_, (pss_one (ps_ret (pe_cmpR (op_inT (u65 hr)) (pv 0) (pe_glob (v := .ref T.A_KINDS) rfl T.c_KINDS rfl) (by rfl)))), ?_⟩
    obtain ⟨u, ru, du⟩ := datK_ok 4 T.d_KINDS
    obtain rfl : u = .ref T.A_KINDS := relref ru
    exact ⟨_, rfl, d, _, hd, du H, sd, kinds_shaped, k⟩
theorem ok_require_kind (T : Txt K mg w) : FnOk P w K mg base (L2.CX P w) 3 T.f_require_kind T.fd_require_kind ["value"] (sp_rkind K T.C_NoProgram) := by
  refine T.F_require_kind.okX sc_require_kind (fun vs H Q E h => ?_) (fun cdv A outer s H vs Q E hr h => ?_)
  · obtain ⟨v, d, rfl, _⟩ := h
    rfl
  · obtain ⟨v, d, rfl, hd, sd, k1, k2⟩ := h
    refine ⟨_, (pss_one (ps_if (pt_not (pt_val (pe_call (ok_is_kind T) (hr.mono (by decide)) rfl T.m_is_kind T.F_is_kind.kp T.b_is_kind .nil pass0 (pa_cons (pv 0) pa_nil)))) (pss_one (ps_raise rfl (takes_of rfl rfl rfl rfl) (pmk_oex T.x_NoProgram T.i_NoProgram T.t_NoProgram (ok_NoProgram_init T) hr T.b_NoProgram_init .nil pass0 rfl T.g_NoProgram (pa_cons (pv 0) pa_nil)))) pss_nil)), ?_⟩
    refine ⟨_, rfl, v, d, rfl, hd, sd, _, rfl, ?_⟩
    cases e : kindD d with
    | true => exact iteF (k1 e)
    | false => exact iteT ⟨_, rfl, raise_x T.x_NoProgram T.n_NoProgram (k2 e)⟩
theorem ok_is_step (T : Txt K mg w) : FnOk P w K mg base (L2.CX P w) 4 T.f_is_step T.fd_is_step ["value", "kind"] (sp_is_step K T.C_NoProgram) := by
  refine T.F_is_step.okX sc_is_step (fun vs H Q E h => ?_) (fun cdv A outer s H vs Q E hr h => ?_)
  · obtain ⟨x, y, o, d, rfl, _⟩ := h
    rfl
  · obtain ⟨x, y, o, d, rfl, hv, hsho, hd, sd, k1, k2⟩ := h
    refine ⟨_, (pss_cons (ps_expr (pe_call (ok_require_kind T) hr rfl T.m_require_kind T.F_require_kind.kp T.b_require_kind .nil (passC (takes_of rfl rfl rfl rfl)) (pa_cons (pv 1) pa_nil)))
        (pss_cons (ps_if (pt_not (pt_val (pe_callB (id := "isinstance") call_isi (by rfl) T.z_isinstance (by decide +kernel) (pa_cons (pv 0) (pa_cons (pe_bltn (v := .ty "tuple") (u := .type "tuple") (by rfl) T.z_tuple (by decide +kernel) rfl) pa_nil))))) (pss_one (ps_ret pe_bl)) pss_nil)
        (pss_cons (ps_if (pt_cmpR op_eq (pe_callB (id := "len") call_len_seq (by rfl) T.z_len (by decide +kernel) (pa_cons (pv 0) pa_nil)) pe_int (nomark _)) (pss_cons (ps_asg (pv 0) (pg_tup rfl (pgs_cons (pg_name (i := 2) sc_is_step.nd rfl (Or.inl rfl)) (pgs_cons (pg_name (i := 3) sc_is_step.nd rfl (Or.inl rfl)) (pgs_cons (pg_name (i := 4) sc_is_step.nd rfl (Or.inl rfl)) pgs_nil)))))
        (pss_one (ps_ret (pe_and (pe_cmpR (op_eqD hr.units) (pv 2) pe_str (nomark _)) (pe_and (pe_cmpR (op_inT (u65 hr)) (pv 3) (pe_ix ix_kdict (pe_glob (v := .ref T.A_LOCKS) rfl T.c_LOCKS rfl) (pv 1) (fun _ _ => rfl)) (by rfl)) (pe_one (pe_call (ok_is_name T) (hr.mono (by decide)) rfl T.m_is_name T.F_is_name.kp T.b_is_name .nil pass0 (pa_cons (pv 4) pa_nil)))))))) pss_nil)
        (pss_one (ps_ret (pe_cmpR (op_inT (u65 hr)) (pv 0) (pe_ix ix_kdict (pe_glob (v := .ref T.A_STEPS) rfl T.c_STEPS rfl) (pv 1) (fun _ _ => rfl)) (by rfl))))))), ?_⟩
    refine ⟨_, rfl, y, d, rfl, hd, sd, fun e1 => ?_, fun e => k1 e⟩
    obtain ⟨kd, hk, rfl⟩ := kindD_of e1
    have k := k2 kd rfl hk
    obtain rfl : y = .str kd := by cases hd; rfl
    have ty := hv.ty
    refine ⟨_, rfl, _, _, _, _, _, rfl, .ty _, ty, kit_o o (.inr (.inr (.inr rfl))), _, rfl, ?_⟩
    cases e : isT "tuple" o with
    | false =>
      rw [stepO_ty e] at k
      exact iteT (k H (Same.refl H))
    | true =>
      obtain ⟨a, xs, ds, rfl, rfl, hT, hD, hsh⟩ := hv.tup_of e
      have hst := (hsho _ rfl).2
      refine iteF ⟨_, rfl, _, _, rfl, .inr hT, rfl, _, rfl, ?_⟩
      rw [dec_int]
      by_cases e2 : xs.length = 3
      · have e3 : (((xs.length : Nat) : Int) == 3) = true := by rw [e2]; rfl
        rw [e3]
        obtain ⟨x, y, z, d1, d2, d3, rfl, rfl, h1, h2, h3⟩ := dp_three hD e2
        have s1 := shaped_item (shaped_of_tuple hsh (d := d1) (by simp))
        have s2 := shaped_item (shaped_of_tuple hsh (d := d2) (by simp))
        have s3 := shaped_item (shaped_of_tuple hsh (d := d3) (by simp))
        refine iteT ⟨_, rfl, a, _, rfl, hT, rfl, _, _, rfl, _, _, rfl, _, _, rfl, rfl, ?_⟩
        have k : ∀ H', Same H H' → Q (.bl (PyData.eqv d1 (.str "lock") && ((((locksT kd).map PyData.str).any fun z => PyData.eqv z d2) && nameO (some d3)))) H' := k
        refine ⟨_, rfl, d1, .str "lock", h1, .str _, s1, by decide +kernel, _, rfl, ?_⟩
        cases q1 : PyData.eqv d1 (.str "lock") with
        | false =>
          rw [q1] at k
          exact iteF (k H (Same.refl H))
        | true =>
          rw [q1] at k
          obtain ⟨u, ku, du⟩ := nsD_ok T.l_LOCKS T.d_LOCKS (locks_in hk)
          refine iteT ⟨_, rfl, _, rfl, _, _, u, rfl, rfl, ku, d2, _, h2, du H, s2, locks_shaped hk, _, rfl, ?_⟩
          cases q2 : (((locksT kd).map PyData.str).any fun z => PyData.eqv z d2) with
          | false =>
            rw [q2] at k
            exact iteF (k H (Same.refl H))
          | true =>
            rw [q2] at k
            exact iteT ⟨_, rfl, z, some d3, rfl, .dat h3 s3 (fun s e => hst s (by rw [e]; simp)), k⟩
      · have e3 : (((xs.length : Nat) : Int) == 3) = false := by
          rw [beq_eq_false_iff_ne]
          omega
        rw [e3]
        have hlen := dpAll_len hD
        have k : ∀ H', Same H H' → Q (.bl (stepD kd ds)) H' := k
        rw [stepD_else (by omega)] at k
        obtain ⟨u, ku, du⟩ := nsD_ok T.l_STEPS T.d_STEPS (steps_in hk)
        exact iteF ⟨_, rfl, _, rfl, _, _, u, rfl, rfl, ku, .tuple ds, _, .tup hT hD, du H, hsh, steps_shaped hk, k H (Same.refl H)⟩
theorem ok_law_is_name (T : Txt K mg w) : FnOk P w K mg base CX0 1 T.f_law_is_name T.fd_law_is_name ["_law_thing"] (sp_v1 K nameO) := by
  refine T.F_law_is_name.ok sc_law_is_name (fun vs H Q E h => ?_) (fun cdv A outer s H vs Q E hr h => ?_)
  · obtain ⟨v, o, rfl, _⟩ := h
    rfl
  · obtain ⟨v, o, rfl, hv, k⟩ := h
    have ty := hv.ty
    refine ⟨_, (pss_cons (ps_if (PW.pt (pw_or (pt_not (pt_val (pe_callB (id := "isinstance") call_isi (by rfl) T.z_isinstance (by decide +kernel) (pa_cons (pv 0) (pa_cons (pe_bltn (v := .ty "str") (u := .type "str") (by rfl) T.z_str (by decide +kernel) rfl) pa_nil))))) (pw_or (pt_cmpR op_eq (pv 0) pe_str (nomark _)) (pw_or (pt_cmpR op_lt (pe_callB (id := "len") call_len_str (by rfl) T.z_len (by decide +kernel) (pa_cons (pv 0) pa_nil)) pe_int (nomark _)) (pw_or1 (pt_cmpR op_gt (pe_callB (id := "len") call_len_str (by rfl) T.z_len (by decide +kernel) (pa_cons (pv 0) pa_nil)) pe_int (nomark _))))))) (pss_one (ps_ret pe_bl)) pss_nil)
        (pss_one (ps_ret (pe_cmpR (op_eqD hr.units) (pe_lc (own := [("_law_sign", 1)]) (g := gName 1) rfl sc_law_is_name.nd (pi_str (pv 0)) (blkOk_by (own := [("_law_sign", 1)]) (N := ["_law_thing", "_law_sign"]) (sc := defScope s_law_is_name) (by decide +kernel)) (fun _ _ _ _ _ => (pg_name (i := 1) sc_law_is_name.nd rfl (Or.inl rfl))) (fun _ _ _ _ _ => (pts_one (pt_cmpR op_notIn_sign (pv 1) pe_str (by rfl)))) (fun _ _ _ _ _ => (pv 1))) (pe_lst pa_nil) (nomark _))))), ?_⟩
    refine ⟨_, rfl, _, _, _, _, _, rfl, .ty _, ty, kit_o o (.inr (.inr (.inl rfl))), _, rfl, ?_⟩
    cases e : isT "str" o with
    | false =>
      rw [nameO_no e] at k
      exact iteT (iteT (k H (Same.refl H)))
    | true =>
      obtain ⟨s, rfl, rfl, hs, hok⟩ := hv.str_of e
      have hz : s.length ≤ sizeLine := Nat.le_trans hs (by decide)
      refine iteF ⟨_, rfl, rfl, _, rfl, ?_⟩
      have k : ∀ H', Same H H' → Q (.bl (nameS s)) H' := k
      unfold nameS at k
      rw [dec_str]
      cases e1 : s == ("table" : Str) with
      | true =>
        rw [e1] at k
        exact iteT (iteT (k H (Same.refl H)))
      | false =>
        rw [e1] at k
        refine iteF ⟨_, rfl, _, rfl, hz, _, _, rfl, rfl, _, rfl, ?_⟩
        by_cases e2 : (1 : Int) ≤ s.length
        · have e2' : decide ((s.length : Int) < 1) = false := decide_eq_false (by omega)
          rw [decide_eq_true e2] at k
          rw [e2']
          refine iteF ⟨_, rfl, _, rfl, hz, _, _, rfl, rfl, _, rfl, ?_⟩
          by_cases e3 : (s.length : Int) ≤ 8
          · have e3' : decide ((8 : Int) < s.length) = false := decide_eq_false (by omega)
            rw [decide_eq_true e3] at k
            rw [e3']
            refine iteF ⟨_, rfl, _, rfl, fun D hD => ?_⟩
            refine lc_acc walk_str hD (fun _ _ => trivial) (fun i => ((s.cps.toList.take i).filter fun c => !okSign c).map fun c => V.str ⟨#[c]⟩) rfl (fun i hi => ?_) ?_ ?_
            · rw [List.length_map]
              have h1 := List.length_filter_le (fun c => !okSign c) (s.cps.toList.take i)
              rw [List.length_take] at h1
              have : s.cps.size ≤ 1000 := hs
              exact Nat.lt_of_le_of_lt h1 (Nat.lt_of_le_of_lt (Nat.min_le_left _ _) (Nat.lt_of_lt_of_le hi (Nat.le_trans this (by decide))))
            · rintro i x H2 hi ⟨c, hc, rfl⟩ s1 R S r1 r2
              have hc' : s.cps.toList[i]? = some c := by rw [Array.getElem?_toList]; exact hc
              refine ⟨rfl, _, rfl, c, _, rfl, rfl, _, rfl, ?_⟩
              rw [← okSign_is]
              cases e4 : okSign c with
              | true =>
                refine iteF (r2 _ ?_ (Same.refl _))
                rw [List.take_add_one, hc']
                simp [e4]
              | false =>
                refine iteT ⟨_, rfl, r1 _ _ ?_ (Same.refl _)⟩
                rw [List.take_add_one, hc']
                simp [e4]
            · intro H2 s1 hl
              have ht : s.cps.toList.take s.cps.size = s.cps.toList := by rw [← Array.length_toList, List.take_length]
              rw [ht] at hl
              refine ⟨Nat.zero_le _, fun q hq => ?_⟩
              have s2 : Same H2 (upd H2 q (.lst [])) := fun b o eb => by
                rw [upd_ne (ne_of_none eb hq)]
                exact eb
              have hq2 : Dp K (upd H2 q (.lst [])) (.ref q) (.list []) := .lst (SqL.of upd_same) .nil
              have hl2 : Dp K (upd H2 q (.lst [])) (.ref D) (.list ((s.cps.toList.filter fun c => !okSign c).map fun c => PyData.str ⟨#[c]⟩)) := by
                refine .lst (SqL.of (s2 _ _ hl)) ?_
                have := dpAll_strs (K := K) (H := upd H2 q (.lst [])) ((s.cps.toList.filter fun c => !okSign c).map fun c => (⟨#[c]⟩ : Str))
                rw [List.map_map, List.map_map] at this
                exact this
              refine ⟨_, _, hl2, hq2, shaped_list (n := 1) (by decide) (fun d hd => ?_), shaped_nil, ?_⟩
              · obtain ⟨c, hc, rfl⟩ := List.mem_map.mp hd
                refine ⟨?_, by simp [PyData.depth]⟩
                simp only [PyData.canLay0]
                exact strOk_sign (strOk_mem hok (List.mem_filter.mp hc).1)
              · rw [eqv_nil]
                have ee : (((s.cps.toList.filter fun c => !okSign c).map fun c => PyData.str ⟨#[c]⟩).isEmpty) = s.cps.toList.all okSign := by
                  rw [List.isEmpty_map]
                  generalize s.cps.toList = l
                  induction l with
                  | nil => rfl
                  | cons a r ih => cases h : okSign a <;> simp [h, ih]
                rw [ee]
                exact k _ (s1.trans s2)
          · have e3' : decide ((8 : Int) < s.length) = true := decide_eq_true (by omega)
            rw [decide_eq_false e3] at k
            rw [e3']
            exact iteT (k H (Same.refl H))
        · have e2' : decide ((s.length : Int) < 1) = true := decide_eq_true (by omega)
          rw [decide_eq_false e2] at k
          rw [e2']
          exact iteT (iteT (k H (Same.refl H)))
theorem ok_law_kinds (T : Txt K mg w) : FnOk P w K mg base CX0 1 T.f_law_kinds T.fd_law_kinds [] sp_law_kinds := by
  refine T.F_law_kinds.ok sc_law_kinds (fun vs H Q E h => ?_) (fun cdv A outer s H vs Q E hr h => ?_)
  · obtain ⟨rfl, _⟩ := h
    rfl
  · obtain ⟨rfl, k⟩ := h
    refine ⟨_, (pss_one (ps_ret (pe_lst (pa_cons pe_str (pa_cons pe_str (pa_cons pe_str (pa_cons pe_str (pa_cons pe_str (pa_cons pe_str (pa_cons pe_str (pa_cons pe_str pa_nil))))))))))), ?_⟩
    exact ⟨(by show 8 ≤ sizeLine; decide), fun p hp => k p hp⟩
theorem ok_law_is_step (T : Txt K mg w) : FnOk P w K mg base CX0 2 T.f_law_is_step T.fd_law_is_step ["_law_thing", "_law_sort"] (sp_law_is_step K) := by
  refine T.F_law_is_step.ok sc_law_is_step (fun vs H Q E h => ?_) (fun cdv A outer s H vs Q E hr h => ?_)
  · obtain ⟨v, o, kd, rfl, _⟩ := h
    rfl
  · obtain ⟨v, o, kd, rfl, hv, hsho, hk, k⟩ := h
    refine ⟨_, (pss_cons (ps_par (i := 2) (j := 3) (by rfl) sc_law_is_step.nd rfl rfl (by decide) rfl rfl (pa_cons (pe_lst (pa_cons pe_str (pa_cons pe_str (pa_cons pe_str pa_nil)))) (pa_cons (pe_lst (pa_cons pe_str (pa_cons pe_str (pa_cons pe_str (pa_cons pe_str pa_nil))))) pa_nil)) (by rfl))
        (pss_cons (ps_if (PW.pt (pw_or (pt_not (pt_val (pe_callB (id := "isinstance") call_isi (by rfl) T.z_isinstance (by decide +kernel) (pa_cons (pv 0) (pa_cons (pe_bltn (v := .ty "tuple") (u := .type "tuple") (by rfl) T.z_tuple (by decide +kernel) rfl) pa_nil))))) (pw_or (pt_cmpR (op_eqD hr.units) (pv 0) (pe_tup pa_nil) (nomark _)) (pw_or1 (pt_cmpR (op_neD hr.units) (pe_lc (own := [("_law_item", 7)]) (g := gName 7) rfl sc_law_is_step.nd (pi_tup (pv 0)) (blkOk_by (own := [("_law_item", 7)]) (N := ["_law_thing", "_law_sort", "_law_askers", "_law_changes", "_law_at", "_law_where", "_law_word", "_law_item"]) (sc := defScope s_law_is_step) (by decide +kernel)) (fun _ _ _ _ _ => (pg_name (i := 7) sc_law_is_step.nd rfl (Or.inl rfl))) (fun _ _ _ _ _ => (pts_one (pt_not (pt_val (pe_callB (id := "isinstance") (r := rIsi K) call_isi (by rfl) T.z_isinstance (by decide +kernel) (pa_cons (pv 7) (pa_cons (pe_bltn (v := .ty "str") (u := .type "str") (by rfl) T.z_str (by decide +kernel) rfl) pa_nil))))))) (fun _ _ _ _ _ => (pv 7))) (pe_lst pa_nil) (nomark _)))))) (pss_one (ps_ret pe_bl)) pss_nil)
        (pss_cons (ps_if (pt_cmpR op_eq (pe_ix ix_tup (pv 0) pe_int (fun _ _ => rfl)) pe_str (nomark _)) (pss_cons (ps_if (PW.pt (pw_or (pt_cmpR op_ne (pe_callB (id := "len") call_len_seq (by rfl) T.z_len (by decide +kernel) (pa_cons (pv 0) pa_nil)) pe_int (nomark _)) (pw_or1 (pt_not (pt_val (pe_call (ok_law_is_name T) hr rfl T.m_law_is_name T.F_law_is_name.kp T.b_law_is_name .nil pass0 (pa_cons (pe_ix ix_tup (pv 0) pe_int (fun _ _ => rfl)) pa_nil))))))) (pss_one (ps_ret pe_bl)) pss_nil)
        (pss_cons (ps_set (i := 4) sc_law_is_step.nd rfl (Or.inl rfl) (pe_disp (pps_cons pe_str (pe_op op_cat (pv 2) (pv 3)) (pps_cons pe_str (pe_op op_cat (pv 2) (pe_lst (pa_cons pe_str pa_nil))) (pps_cons pe_str (pe_slice sl_list (pv 3) (po_some pe_int) po_none) (pps_cons pe_str (pv 3) pps_nil)))) (by rfl) (by rfl) (fun z => by cases z) (by decide)))
        (pss_cons (ps_dput (hu_of hr) (pv 4) pe_str (pe_lst (pa_cons pe_str (pa_cons pe_str (pa_cons pe_str pa_nil)))) rfl)
        (pss_one (ps_ret (pe_cmpR op_in_seq (pv 1) (pe_dget2 (hu_of hr) (pv 4) (pe_ix ix_tup (pv 0) pe_int (fun _ _ => rfl)) (pe_lst pa_nil) ⟨rfl, rfl, rfl, rfl⟩) (by rfl))))))) pss_nil)
        (pss_cons (ps_if (pt_cmpR op_eq (pe_ix ix_tup (pv 0) pe_int (fun _ _ => rfl)) pe_str (nomark _)) (pss_one (ps_ret (pe_and (pe_cmpR op_eq (pv 1) pe_str (nomark _)) (pe_one (pe_cmpR (op_inD (u65 hr)) (pe_slice sl_tup (pv 0) (po_some pe_int) po_none) (pe_lst (pa_cons (pe_tup (pa_cons pe_str pa_nil)) (pa_cons (pe_tup (pa_cons pe_str pa_nil)) pa_nil))) (by rfl)))))) pss_nil)
        (pss_cons (ps_if (pt_cmpR op_ne (pe_callB (id := "len") call_len_seq (by rfl) T.z_len (by decide +kernel) (pa_cons (pv 0) pa_nil)) pe_int (nomark _)) (pss_one (ps_ret pe_bl)) pss_nil)
        (pss_cons (ps_set (i := 5) sc_law_is_step.nd rfl (Or.inl rfl) (pe_disp (pps_cons pe_str (pv 2) (pps_cons pe_str (pv 2) (pps_cons pe_str (pe_lst (pa_cons pe_str pa_nil)) (pps_cons pe_str (pe_lst (pa_cons pe_str pa_nil)) (pps_cons pe_str (pe_call0 (ok_law_kinds T) hr rfl T.m_law_kinds T.F_law_kinds.kp T.b_law_kinds .nil pass0) pps_nil))))) (by rfl) (by rfl) (fun z => by cases z) (by decide)))
        (pss_cons (ps_for PassesOwn.never rfl (pi_list (pe_lst (pa_cons pe_str (pa_cons pe_str (pa_cons pe_str pa_nil))))) (pg_name (i := 6) sc_law_is_step.nd rfl (Or.inl rfl))
          (pss_one (ps_dput (hu_of hr) (pv 5) (pv 6) (pe_lst (pa_cons pe_str (pa_cons pe_str pa_nil))) rfl)))
        (pss_cons (ps_for PassesOwn.never rfl (pi_list (pe_lst (pa_cons pe_str (pa_cons pe_str pa_nil)))) (pg_name (i := 6) sc_law_is_step.nd rfl (Or.inl rfl))
          (pss_one (ps_dput (hu_of hr) (pv 5) (pv 6) (pe_lst (pa_cons pe_str pa_nil)) rfl)))
        (pss_cons (ps_for PassesOwn.never rfl (pi_list (pe_lst (pa_cons pe_str (pa_cons pe_str (pa_cons pe_str pa_nil))))) (pg_name (i := 6) sc_law_is_step.nd rfl (Or.inl rfl))
          (pss_one (ps_dput (hu_of hr) (pv 5) (pv 6) (pv 3) rfl)))
        (pss_cons (ps_dput (hu_of hr) (pv 5) pe_str (pe_lst (pa_cons pe_str (pa_cons pe_str pa_nil))) rfl)
        (pss_one (ps_ret (pe_cmpR op_in_seq (pv 1) (pe_dget2 (hu_of hr) (pv 5) (pe_ix ix_tup (pv 0) pe_int (fun _ _ => rfl)) (pe_lst pa_nil) ⟨rfl, rfl, rfl, rfl⟩) (by rfl)))))))))))))), ?_⟩
    refine ⟨(by show 3 ≤ sizeLine; decide), fun la hla => ⟨(by show 4 ≤ sizeLine; decide), fun lc hlc => ⟨_, _, rfl, ?_⟩⟩⟩
    have sa := same_new (o := .lst [.str "put", .str "strike", .str "read"]) hla
    have sc := same_new (o := .lst [.str "hang", .str "take", .str "split", .str "join"]) hlc
    have sac := sa.trans sc
    have ga : upd (upd H la (.lst [.str "put", .str "strike", .str "read"])) lc (.lst [.str "hang", .str "take", .str "split", .str "join"]) la = some (.lst (askersL.map V.str)) := sc _ _ upd_same
    have gc : upd (upd H la (.lst [.str "put", .str "strike", .str "read"])) lc (.lst [.str "hang", .str "take", .str "split", .str "join"]) lc = some (.lst (changesL.map V.str)) := upd_same
    have hv := hv.mono sac
    have k : ∀ H', Same (upd (upd H la (.lst [.str "put", .str "strike", .str "read"])) lc (.lst [.str "hang", .str "take", .str "split", .str "join"])) H' → Q (.bl (stepO kd o)) H' := fun H' s' => k H' (sac.trans s')
    generalize hG : upd (upd H la (.lst [.str "put", .str "strike", .str "read"])) lc (.lst [.str "hang", .str "take", .str "split", .str "join"]) = G at ga gc hv k ⊢
    clear hG
    have ty := hv.ty
    refine ⟨_, rfl, _, _, _, _, _, rfl, .ty _, ty, kit_o o (.inr (.inr (.inr rfl))), _, rfl, ?_⟩
    cases e : isT "tuple" o with
    | false =>
      rw [stepO_ty e] at k
      exact iteT (iteT (k G (Same.refl G)))
    | true =>
      obtain ⟨a, xs, ds, rfl, rfl, hT, hD, hsh⟩ := hv.tup_of e
      have hst := (hsho _ rfl).1
      have hst2 := (hsho _ rfl).2
      refine iteF ⟨_, rfl, (by show 0 ≤ sizeLine; decide), fun t0 ht0 => ?_⟩
      have s0 := same_new (o := .tup []) ht0
      refine ⟨.tuple ds, .tuple [], .tup (same_t s0 hT) (dpAll_mono s0 hD), .tup (SqT.of upd_same) .nil, hsh, by decide +kernel, _, rfl, ?_⟩
      have k : ∀ H', Same G H' → Q (.bl (stepD kd ds)) H' := k
      cases e0 : PyData.eqv (.tuple ds) (.tuple []) with
      | true =>
        have e1 : ds = [] := by
          cases ds with
          | nil => rfl
          | cons d r => simp [PyData.eqv, PyData.eqvAll] at e0
        rw [e1, show stepD kd [] = stepS kd [] from stepD_strs kd [], stepS_law hk] at k
        exact iteT (iteT (k _ s0))
      | false =>
        have e1 : ds ≠ [] := fun q => by
          rw [q] at e0
          simp [PyData.eqv, PyData.eqvAll] at e0
        refine iteF ⟨_, rfl, a, rfl, ⟨_, same_t s0 hT⟩, fun D hD2 => ?_⟩
        have hlen := dpAll_len hD
        refine lc_acc walk_tup hD2 (fun H' s' => same_t (s0.trans s') hT) (fun i => filtG notStr (xs.take i) (ds.take i)) rfl (fun i hi => Nat.lt_of_le_of_lt (filtG_len _ _ _) ?_) ?_ ?_
        · rw [List.length_take]
          exact Nat.lt_of_le_of_lt (Nat.le_trans (Nat.min_le_right _ _) (by rw [hlen]; exact hst)) (by decide)
        · rintro i z H2 hi hz s1 R S r1 r2
          obtain ⟨dz, hdz, vz⟩ := dpAll_get hD hz
          have tz := (dp_vO (dp_mono (s0.trans s1) vz)).1
          have step := filtG_step (f := notStr) hz hdz
          refine ⟨rfl, _, rfl, _, _, _, _, _, rfl, .ty _, tz, kit_o (some dz) (.inr (.inr (.inl rfl))), _, rfl, ?_⟩
          have en : isT "str" (some dz) = !notStr dz := by cases dz <;> rfl
          rw [en]
          cases q : notStr dz with
          | false =>
            rw [if_neg (by rw [q]; decide)] at step
            exact iteF (r2 _ step (Same.refl _))
          | true =>
            rw [if_pos q] at step
            exact iteT ⟨_, rfl, r1 _ _ step (Same.refl _)⟩
        · intro H2 s1 hl
          have hl : H2 D = some (.lst (filtG notStr (xs.take xs.length) (ds.take xs.length))) := hl
          rw [List.take_length, hlen, List.take_length] at hl
          refine ⟨Nat.zero_le _, fun q hq => ?_⟩
          have s2 := same_new (o := .lst []) hq
          have sC := s0.trans (s1.trans s2)
          refine ⟨_, _, .lst (SqL.of (s2 _ _ hl)) (filtG_dp (dpAll_mono sC hD)), .lst (SqL.of upd_same) .nil, shaped_list (n := 63) (by decide) (fun d hd => shaped_of_tuple hsh (List.mem_filter.mp hd).1), shaped_nil, _, rfl, ?_⟩
          rw [eqv_nil]
          cases ef : (ds.filter notStr).isEmpty with
          | false =>
            rw [stepD_no (strs_ds_no ef)] at k
            exact iteT (k _ sC)
          | true =>
            obtain ⟨ss, rfl⟩ := strs_ds ef
            obtain rfl := dp_strs hD
            rw [stepD_strs, stepS_law hk] at k
            have k : ∀ H', Same (upd H2 q (.lst [])) H' → Q (.bl (lawS kd ss)) H' := fun H' s' => k H' (sC.trans s')
            have hT := same_t sC hT
            have ga := sC _ _ ga
            have gc := sC _ _ gc
            have hshort : ∀ s ∈ ss, s.length ≤ 1000 := fun s hs => hst2 s (List.mem_map.mpr ⟨s, hs, rfl⟩)
            have hok : ∀ s ∈ ss, SeqAt.shaped (.str s) = true := fun s hs => shaped_item (shaped_of_tuple hsh (List.mem_map.mpr ⟨s, hs, rfl⟩))
            cases ss with
            | nil => exact absurd rfl e1
            | cons w0 r =>
            clear hsho hv hD hsh e hlen hst hst2 e0 e1 ef hl s2 s1 s0 hD2 ht0 hq
            generalize upd H2 q (.lst []) = G at sC k hT ga gc ⊢
            refine iteF ⟨_, rfl, a, _, _, _, rfl, rfl, hT, atI_nat (j := 0) rfl, rfl, _, rfl, ?_⟩
            rw [dec_str]
            cases q0 : (w0 == ("lock" : Str)) with
            | true =>
              obtain rfl := eq_of_beq q0
              refine iteT ⟨_, rfl, _, _, rfl, .inr hT, rfl, _, rfl, ?_⟩
              rw [dec_int]
              have k : ∀ H', Same G H' → Q (.bl (lockR kd r)) H' := k
              rcases r with _ | ⟨b, _ | ⟨c, _ | ⟨d, r⟩⟩⟩
              · exact iteT (iteT (k _ (Same.refl _)))
              · exact iteT (iteT (k _ (Same.refl _)))
              · refine iteF ⟨_, rfl, a, _, _, _, rfl, rfl, hT, atI_nat (j := 2) rfl, .str c, some (.str c), rfl, .dat (.str c) (hok c (by simp)) (fun s e => by cases e; exact hshort c (by simp)), fun H3 s3 => ⟨_, rfl, ?_⟩⟩
                have k : ∀ H', Same G H' → Q (.bl (nameS c && decide (kd ∈ (getO atTb b).getD []))) H' := k
                show if (!nameS c) = true then _ else _
                cases en : nameS c with
                | false =>
                  rw [en] at k
                  exact iteT (k _ s3)
                | true =>
                  rw [en] at k
                  have k : ∀ H', Same H3 H' → Q (.bl (decide (kd ∈ (getO atTb b).getD []))) H' := fun H' s' => k H' (s3.trans s')
                  have hT := same_t s3 hT
                  have ga := s3 _ _ ga
                  have gc := s3 _ _ gc
                  refine iteF ?_
                  intro pd hpd
                  have s4 := same_new (o := .dK []) hpd
                  refine ⟨_, rfl, _, rfl, la, lc, _, _, rfl, rfl, s4 _ _ ga, s4 _ _ gc, (by show 3 + 4 ≤ sizeLine; decide), fun l1 hl1 => ?_⟩
                  have s5 := same_new (o := .lst ((askersL ++ changesL).map V.str)) hl1
                  have s45 := s4.trans s5
                  refine ⟨_, rfl, (by show 1 ≤ sizeLine; decide), fun m1 hm1 => ?_⟩
                  have s6 := same_new (o := .lst [.str "direct"]) hm1
                  have s46 := s45.trans s6
                  refine ⟨la, m1, _, _, rfl, rfl, s46 _ _ ga, upd_same, (by show 3 + 1 ≤ sizeLine; decide), fun l2 hl2 => ?_⟩
                  have s7 := same_new (o := .lst ((askersL ++ (["direct"] : List Str)).map V.str)) hl2
                  have s47 := s46.trans s7
                  refine ⟨_, rfl, 1, rfl, lc, _, rfl, SqL.of (s47 _ _ gc), fun l3 hl3 => ?_⟩
                  have s8 := same_new (o := .lst ((["take", "split", "join"] : List Str).map V.str)) hl3
                  have s48 := s47.trans s8
                  have hpd8 := s8 _ _ (s7 _ _ (s6 _ _ (s5 _ _ (upd_same (H := H3) (a := pd) (o := .dK [])))))
                  refine ⟨_, rfl, hpd8, [(.inr "table", .ref l1), (.inr "part", .ref l2), (.inr "old", .ref l3), (.inr "rest", .ref lc)], rfl, (by show 4 ≤ 15; decide), ?_⟩
                  have kt : KvT _ _ (([("table", askersL ++ changesL), ("part", askersL ++ (["direct"] : List Str)), ("old", ["take", "split", "join"]), ("rest", changesL)] : List (Str × List Str))) := .cons (s := "table") (s8 _ _ (s7 _ _ (s6 _ _ upd_same))) (.cons (s := "part") (s8 _ _ upd_same) (.cons (s := "old") upd_same (.cons (s := "rest") (s48 _ _ gc) .nil)))
                  have kt := (kt.merge .nil (by decide +kernel)).over (o := .dK (mergeK [] [(.inr "table", .ref l1), (.inr "part", .ref l2), (.inr "old", .ref l3), (.inr "rest", .ref lc)])) hpd8
                  have sb := same_over s48 (o := .dK (mergeK [] [(.inr "table", .ref l1), (.inr "part", .ref l2), (.inr "old", .ref l3), (.inr "rest", .ref lc)])) hpd
                  refine ⟨(by show 3 ≤ sizeLine; decide), fun l4 hl4 => ?_⟩
                  have s9 := same_new (o := .lst ((["hang", "split", "join"] : List Str).map V.str)) hl4
                  have hd := s9 _ _ (upd_same (a := pd) (o := .dK (mergeK [] [(.inr "table", .ref l1), (.inr "part", .ref l2), (.inr "old", .ref l3), (.inr "rest", .ref lc)])))
                  have kt := kt.mono s9
                  refine ⟨_, rfl, pd, _, rfl, DPut.k (k := .inr "new") hd (by rw [kt.len]; decide), ?_⟩
                  have kt := (kt.put (ss := (["hang", "split", "join"] : List Str)) (w := "new") upd_same (by decide +kernel)).over (o := .dK (putK (mergeK [] [(.inr "table", .ref l1), (.inr "part", .ref l2), (.inr "old", .ref l3), (.inr "rest", .ref lc)]) (.inr "new") (.ref l4))) hd
                  have sb := same_over (sb.trans s9) (o := .dK (putK (mergeK [] [(.inr "table", .ref l1), (.inr "part", .ref l2), (.inr "old", .ref l3), (.inr "rest", .ref lc)]) (.inr "new") (.ref l4))) hpd
                  refine ⟨_, rfl, _, rfl, pd, rfl, .inl ⟨_, .inl upd_same⟩, _, rfl, a, _, _, _, rfl, rfl, same_t sb hT, atI_nat (j := 1) rfl, (by show 0 ≤ sizeLine; decide), fun q hq => ?_⟩
                  have s10 := same_new (o := .lst []) hq
                  have kt := kt.mono s10
                  have k := k _ (sb.trans s10)
                  refine ⟨_, DGet.k (k := .inr b) (s10 _ _ upd_same), ?_⟩
                  rcases kt.get b with ⟨e1, e2⟩ | ⟨a', ss, e1, e2, e3⟩
                  · rw [show getO atTb b = _ from e1] at k
                    rw [e2]
                    exact ⟨q, [], rfl, .inl (SqL.of upd_same), rfl, rfl, k⟩
                  · rw [show getO atTb b = _ from e1] at k
                    rw [e2]
                    refine ⟨a', ss.map V.str, rfl, .inl (SqL.of e3), rfl, flat_strs ss, ?_⟩
                    rw [in_strs]
                    exact k
              · refine iteTe ?_ (iteT (k _ (Same.refl _)))
                show (!(((List.length (V.str "lock" :: V.str b :: V.str c :: V.str d :: List.map V.str r) : Nat) : Int) == 3)) = true
                rw [Bool.not_eq_true', beq_eq_false_iff_ne]
                simp only [List.length_cons]
                omega
            | false =>
              have w1 : ¬ w0 = ("lock" : Str) := fun e => by rw [e] at q0; cases q0
              have k : ∀ H', Same G H' → Q (.bl (if w0 = "scan" then decide (kd = "hang") && decide (r ∈ ([["new"], ["rest"]] : List (List Str))) else whereR kd w0 r)) H' := fun H' s' => by
                have := k H' s'
                rw [show lawS kd (w0 :: r) = if w0 = "lock" then lockR kd r else _ from rfl, if_neg w1] at this
                exact this
              refine iteF ⟨_, rfl, a, _, _, _, rfl, rfl, hT, atI_nat (j := 0) rfl, rfl, _, rfl, ?_⟩
              rw [dec_str]
              cases q1 : (w0 == ("scan" : Str)) with
              | true =>
                obtain rfl := eq_of_beq q1
                rw [if_pos rfl] at k
                refine iteT ⟨_, rfl, rfl, _, rfl, ?_⟩
                rw [dec_str]
                cases q2 : (kd == ("hang" : Str)) with
                | false =>
                  rw [decide_eq_false fun e => by rw [e] at q2; cases q2] at k
                  exact iteF (k _ (Same.refl _))
                | true =>
                  rw [decide_eq_true (eq_of_beq q2)] at k
                  refine iteT ⟨_, rfl, 1, rfl, a, _, rfl, hT, (fun q => ?_), fun t ht => ?_⟩
                  · have := q.1
                    rw [show (1 : Int) = ((1 : Nat) : Int) from rfl, HT.sIx_nat] at this
                    simp at this
                  · have ec : cutV ((("scan" : Str) :: r).map V.str) (some 1) none = r.map V.str := by
                      unfold cutV
                      rw [show (1 : Int) = ((1 : Nat) : Int) from rfl, HT.sIx_nat, HT.sIx_none]
                      simp
                      exact List.take_of_length_le (by simp)
                    rw [ec]
                    have s4 := same_new (o := .tup (r.map V.str)) ht
                    refine ⟨(by show 1 ≤ sizeLine; decide), fun t1 ht1 => ⟨(by show 1 ≤ sizeLine; decide), fun t2 ht2 => ⟨(by show 2 ≤ sizeLine; decide), fun l hl => ?_⟩⟩⟩
                    have s5 := same_new (o := .tup [.str "new"]) ht1
                    have s6 := same_new (o := .tup [.str "rest"]) ht2
                    have s7 := same_new (o := .lst [.ref t1, .ref t2]) hl
                    refine ⟨strsD r, ([["new"], ["rest"]] : List (List Str)).map strsD, .tup (SqT.of (s7 _ _ (s6 _ _ (s5 _ _ upd_same)))) (dpAll_strs r), .lst (SqL.of upd_same) (.cons (.tup (SqT.of (s7 _ _ (s6 _ _ upd_same))) (dpAll_strs ["new"])) (.cons (.tup (SqT.of (s7 _ _ upd_same)) (dpAll_strs ["rest"])) .nil)), strsD_shaped fun s hs => hok s (List.mem_cons_of_mem _ hs), by decide +kernel, ?_⟩
                    rw [any_strsD]
                    exact k _ (s4.trans (s5.trans (s6.trans s7)))
              | false =>
                have w2 : ¬ w0 = ("scan" : Str) := fun e => by rw [e] at q1; cases q1
                rw [if_neg w2] at k
                refine iteF ⟨_, rfl, _, _, rfl, .inr hT, rfl, _, rfl, ?_⟩
                rw [dec_int]
                rcases r with _ | ⟨b, r⟩
                rotate_left
                · refine iteTe ?_ (k _ (Same.refl _))
                  show (!(((List.length (V.str w0 :: V.str b :: List.map V.str r) : Nat) : Int) == 1)) = true
                  rw [Bool.not_eq_true', beq_eq_false_iff_ne]
                  simp only [List.length_cons]
                  omega
                refine iteF ?_
                have k : ∀ H', Same G H' → Q (.bl (decide (kd ∈ (getO whereTb w0).getD []))) H' := k
                intro pd hpd
                have s4 := same_new (o := .dK []) hpd
                refine ⟨_, rfl, _, rfl, (by show 1 ≤ sizeLine; decide), fun l1 hl1 => ⟨(by show 1 ≤ sizeLine; decide), fun l2 hl2 => ⟨rfl, fun l3 hl3 => ?_⟩⟩⟩
                have s5 := same_new (o := .lst [.str "direct"]) hl1
                have s6 := same_new (o := .lst [.str "strike"]) hl2
                have s7 := same_new (o := .lst (kindsL.map V.str)) hl3
                have s47 := s4.trans (s5.trans (s6.trans s7))
                have hpd7 := s7 _ _ (s6 _ _ (s5 _ _ (upd_same (H := G) (a := pd) (o := .dK []))))
                refine ⟨hpd7, [(.inr "look", .ref la), (.inr "again", .ref la), (.inr "border", .ref l1), (.inr "strike", .ref l2), (.inr "end", .ref l3)], rfl, (by show 5 ≤ 15; decide), ?_⟩
                have kt : KvT _ _ (whereTb.take 5) := .cons (s := "look") (s47 _ _ ga) (.cons (s := "again") (s47 _ _ ga) (.cons (s := "border") (s7 _ _ (s6 _ _ upd_same)) (.cons (s := "strike") (s7 _ _ upd_same) (.cons (s := "end") upd_same .nil))))
                have kt := (kt.merge .nil (by decide +kernel)).over (o := .dK (mergeK [] [(.inr "look", .ref la), (.inr "again", .ref la), (.inr "border", .ref l1), (.inr "strike", .ref l2), (.inr "end", .ref l3)])) hpd7
                have sb := same_over s47 (o := .dK (mergeK [] [(.inr "look", .ref la), (.inr "again", .ref la), (.inr "border", .ref l1), (.inr "strike", .ref l2), (.inr "end", .ref l3)])) hpd
                have hd := upd_same (H := upd (upd (upd (upd G pd (.dK [])) l1 (.lst [.str "direct"])) l2 (.lst [.str "strike"])) l3 (.lst (kindsL.map V.str))) (a := pd) (o := .dK (mergeK [] [(.inr "look", .ref la), (.inr "again", .ref la), (.inr "border", .ref l1), (.inr "strike", .ref l2), (.inr "end", .ref l3)]))
                refine ⟨(by show 3 ≤ sizeLine; decide), fun lw1 hlw => ?_⟩
                have sw := same_new (o := .lst ((["key", "put", "claim"] : List Str).map V.str)) hlw
                have hd := sw _ _ hd
                have kt := kt.mono sw
                have sb := sb.trans sw
                refine ⟨lw1, rfl, ⟨_, SqL.of upd_same⟩, for_list (K := K) (a := lw1) (xs := (["key", "put", "claim"] : List Str).map V.str) (fun i σ H' => ∃ (v6 : Option V) (kvs : List (Key × V)), σ = [some (.ref a), some (.str kd), some (.ref la), some (.ref lc), none, some (.ref pd), v6, none] ∧ Same G H' ∧ H' lw1 = some (.lst ((["key", "put", "claim"] : List Str).map V.str)) ∧ H' pd = some (.dK kvs) ∧ KvT H' kvs (whereTb.take 5 ++ ((["key", "put", "claim"] : List Str).take i).map fun s => (s, (["put", "direct"] : List Str)))) ⟨_, _, rfl, sb, upd_same, hd, by rw [List.take_zero, List.map_nil, List.append_nil]; exact kt⟩ (fun i σ H' _ ⟨_, _, _, _, h, _⟩ => SqL.of h) ?_ ?_⟩
                · rintro i x σ H2 hi ⟨v6, kv, rfl, s2, hw2, hd2, kt⟩
                  rw [List.getElem?_map] at hi
                  obtain ⟨wd, hwd, rfl⟩ := Option.map_eq_some_iff.mp hi
                  have hlt : i < 3 := (List.getElem?_eq_some_iff.mp hwd).1
                  refine ⟨(by show 2 ≤ sizeLine; decide), fun l hl => ?_⟩
                  have s3 := same_new (o := .lst ((["put", "direct"] : List Str).map V.str)) hl
                  have hd3 := s3 _ _ hd2
                  have kt3 := kt.mono s3
                  have kl := kt3.len
                  refine ⟨_, rfl, _, rfl, pd, _, rfl, DPut.k (k := .inr wd) hd3 ?_, ?_⟩
                  · rw [kl, List.length_append, List.length_map]
                    have : ((["key", "put", "claim"] : List Str).take i).length ≤ 3 := by rw [List.length_take]; exact Nat.min_le_right _ _
                    have h20 : (whereTb.take 5 : List (Str × List Str)).length ≤ 20 := by decide
                    exact Nat.lt_of_le_of_lt (Nat.add_le_add h20 this) (by decide)
                  · have fr : (getO (whereTb.take 5 ++ ((["key", "put", "claim"] : List Str).take i).map fun s => (s, (["put", "direct"] : List Str))) wd).isNone = true := by
                      have all : ∀ i < 3, ∀ s ∈ (["key", "put", "claim"] : List Str)[i]?.toList, (getO (whereTb.take 5 ++ ((["key", "put", "claim"] : List Str).take i).map fun s => (s, (["put", "direct"] : List Str))) s).isNone = true := by decide +kernel
                      exact all i hlt wd (by rw [hwd]; exact List.mem_singleton.mpr rfl)
                    have kt4 := (kt3.put (ss := (["put", "direct"] : List Str)) (w := wd) upd_same fr).over (o := .dK (putK kv (.inr wd) (.ref l))) hd3
                    refine ⟨_, _, rfl, same_over (s2.trans s3) hpd, ?_, upd_same, ?_⟩
                    · rw [upd_ne fun e => by rw [e, hd2] at hw2; cases hw2]
                      exact s3 _ _ hw2
                    · have et : (["key", "put", "claim"] : List Str).take (i + 1) = (["key", "put", "claim"] : List Str).take i ++ [wd] := by
                        rw [List.take_add_one, hwd]
                        rfl
                      rw [et, List.map_append, ← List.append_assoc]
                      exact kt4
                rintro σ H11 ⟨v1, kv1, rfl, sb, _, hd, kt⟩
                have kt : KvT H11 kv1 (whereTb.take 5 ++ (["key", "put", "claim"] : List Str).map fun s => (s, (["put", "direct"] : List Str))) := kt
                refine ⟨(by show 2 ≤ sizeLine; decide), fun lw2 hlw => ?_⟩
                have sw := same_new (o := .lst ((["view", "read"] : List Str).map V.str)) hlw
                have hd := sw _ _ hd
                have kt := kt.mono sw
                have sb := sb.trans sw
                refine ⟨lw2, rfl, ⟨_, SqL.of upd_same⟩, for_list (K := K) (a := lw2) (xs := (["view", "read"] : List Str).map V.str) (fun i σ H' => ∃ (v6 : Option V) (kvs : List (Key × V)), σ = [some (.ref a), some (.str kd), some (.ref la), some (.ref lc), none, some (.ref pd), v6, none] ∧ Same G H' ∧ H' lw2 = some (.lst ((["view", "read"] : List Str).map V.str)) ∧ H' pd = some (.dK kvs) ∧ KvT H' kvs (whereTb.take 8 ++ ((["view", "read"] : List Str).take i).map fun s => (s, (["read"] : List Str)))) ⟨_, _, rfl, sb, upd_same, hd, by rw [List.take_zero, List.map_nil, List.append_nil]; exact kt⟩ (fun i σ H' _ ⟨_, _, _, _, h, _⟩ => SqL.of h) ?_ ?_⟩
                · rintro i x σ H2 hi ⟨v6, kv, rfl, s2, hw2, hd2, kt⟩
                  rw [List.getElem?_map] at hi
                  obtain ⟨wd, hwd, rfl⟩ := Option.map_eq_some_iff.mp hi
                  have hlt : i < 2 := (List.getElem?_eq_some_iff.mp hwd).1
                  refine ⟨(by show 1 ≤ sizeLine; decide), fun l hl => ?_⟩
                  have s3 := same_new (o := .lst ((["read"] : List Str).map V.str)) hl
                  have hd3 := s3 _ _ hd2
                  have kt3 := kt.mono s3
                  have kl := kt3.len
                  refine ⟨_, rfl, _, rfl, pd, _, rfl, DPut.k (k := .inr wd) hd3 ?_, ?_⟩
                  · rw [kl, List.length_append, List.length_map]
                    have : ((["view", "read"] : List Str).take i).length ≤ 2 := by rw [List.length_take]; exact Nat.min_le_right _ _
                    have h20 : (whereTb.take 8 : List (Str × List Str)).length ≤ 20 := by decide
                    exact Nat.lt_of_le_of_lt (Nat.add_le_add h20 this) (by decide)
                  · have fr : (getO (whereTb.take 8 ++ ((["view", "read"] : List Str).take i).map fun s => (s, (["read"] : List Str))) wd).isNone = true := by
                      have all : ∀ i < 2, ∀ s ∈ (["view", "read"] : List Str)[i]?.toList, (getO (whereTb.take 8 ++ ((["view", "read"] : List Str).take i).map fun s => (s, (["read"] : List Str))) s).isNone = true := by decide +kernel
                      exact all i hlt wd (by rw [hwd]; exact List.mem_singleton.mpr rfl)
                    have kt4 := (kt3.put (ss := (["read"] : List Str)) (w := wd) upd_same fr).over (o := .dK (putK kv (.inr wd) (.ref l))) hd3
                    refine ⟨_, _, rfl, same_over (s2.trans s3) hpd, ?_, upd_same, ?_⟩
                    · rw [upd_ne fun e => by rw [e, hd2] at hw2; cases hw2]
                      exact s3 _ _ hw2
                    · have et : (["view", "read"] : List Str).take (i + 1) = (["view", "read"] : List Str).take i ++ [wd] := by
                        rw [List.take_add_one, hwd]
                        rfl
                      rw [et, List.map_append, ← List.append_assoc]
                      exact kt4
                rintro σ H12 ⟨v2, kv2, rfl, sb, _, hd, kt⟩
                have kt : KvT H12 kv2 (whereTb.take 8 ++ (["view", "read"] : List Str).map fun s => (s, (["read"] : List Str))) := kt
                refine ⟨(by show 3 ≤ sizeLine; decide), fun lw3 hlw => ?_⟩
                have sw := same_new (o := .lst ((["switch", "wait", "close"] : List Str).map V.str)) hlw
                have hd := sw _ _ hd
                have kt := kt.mono sw
                have sb := sb.trans sw
                refine ⟨lw3, rfl, ⟨_, SqL.of upd_same⟩, for_list (K := K) (a := lw3) (xs := (["switch", "wait", "close"] : List Str).map V.str) (fun i σ H' => ∃ (v6 : Option V) (kvs : List (Key × V)), σ = [some (.ref a), some (.str kd), some (.ref la), some (.ref lc), none, some (.ref pd), v6, none] ∧ Same G H' ∧ H' lw3 = some (.lst ((["switch", "wait", "close"] : List Str).map V.str)) ∧ H' pd = some (.dK kvs) ∧ KvT H' kvs (whereTb.take 10 ++ ((["switch", "wait", "close"] : List Str).take i).map fun s => (s, (changesL : List Str)))) ⟨_, _, rfl, sb, upd_same, hd, by rw [List.take_zero, List.map_nil, List.append_nil]; exact kt⟩ (fun i σ H' _ ⟨_, _, _, _, h, _⟩ => SqL.of h) ?_ ?_⟩
                · rintro i x σ H2 hi ⟨v6, kv, rfl, s2, hw2, hd2, kt⟩
                  rw [List.getElem?_map] at hi
                  obtain ⟨wd, hwd, rfl⟩ := Option.map_eq_some_iff.mp hi
                  have hlt : i < 3 := (List.getElem?_eq_some_iff.mp hwd).1
                  have hd3 := hd2
                  have kt3 := kt
                  have kl := kt3.len
                  refine ⟨_, rfl, _, rfl, _, rfl, pd, _, rfl, DPut.k (k := .inr wd) hd3 ?_, ?_⟩
                  · rw [kl, List.length_append, List.length_map]
                    have : ((["switch", "wait", "close"] : List Str).take i).length ≤ 3 := by rw [List.length_take]; exact Nat.min_le_right _ _
                    have h20 : (whereTb.take 10 : List (Str × List Str)).length ≤ 20 := by decide
                    exact Nat.lt_of_le_of_lt (Nat.add_le_add h20 this) (by decide)
                  · have fr : (getO (whereTb.take 10 ++ ((["switch", "wait", "close"] : List Str).take i).map fun s => (s, (changesL : List Str))) wd).isNone = true := by
                      have all : ∀ i < 3, ∀ s ∈ (["switch", "wait", "close"] : List Str)[i]?.toList, (getO (whereTb.take 10 ++ ((["switch", "wait", "close"] : List Str).take i).map fun s => (s, (changesL : List Str))) s).isNone = true := by decide +kernel
                      exact all i hlt wd (by rw [hwd]; exact List.mem_singleton.mpr rfl)
                    have kt4 := (kt3.put (ss := (changesL : List Str)) (w := wd) (s2 _ _ gc) fr).over (o := .dK (putK kv (.inr wd) (.ref lc))) hd3
                    refine ⟨_, _, rfl, same_over s2 hpd, ?_, upd_same, ?_⟩
                    · rw [upd_ne fun e => by rw [e, hd2] at hw2; cases hw2]
                      exact hw2
                    · have et : (["switch", "wait", "close"] : List Str).take (i + 1) = (["switch", "wait", "close"] : List Str).take i ++ [wd] := by
                        rw [List.take_add_one, hwd]
                        rfl
                      rw [et, List.map_append, ← List.append_assoc]
                      exact kt4
                rintro σ H13 ⟨v3, kv3, rfl, sb, _, hd, kt⟩
                have kt : KvT H13 kv3 (whereTb.take 10 ++ (["switch", "wait", "close"] : List Str).map fun s => (s, (changesL : List Str))) := kt
                refine ⟨(by show 2 ≤ sizeLine; decide), fun l9 hl9 => ?_⟩
                have s9 := same_new (o := .lst ((["split", "join"] : List Str).map V.str)) hl9
                have hd := s9 _ _ hd
                have kt := kt.mono s9
                refine ⟨_, rfl, pd, _, rfl, DPut.k (k := .inr "move") hd (by rw [kt.len]; decide), ?_⟩
                have kt := (kt.put (ss := (["split", "join"] : List Str)) (w := "move") upd_same (by decide +kernel)).over (o := .dK (putK kv3 (.inr "move") (.ref l9))) hd
                have sb := same_over (sb.trans s9) (o := .dK (putK kv3 (.inr "move") (.ref l9))) hpd
                refine ⟨_, rfl, _, rfl, pd, rfl, .inl ⟨_, .inl upd_same⟩, _, rfl, a, _, _, _, rfl, rfl, same_t sb hT, atI_nat (j := 0) rfl, (by show 0 ≤ sizeLine; decide), fun q hq => ?_⟩
                have s10 := same_new (o := .lst []) hq
                have kt := kt.mono s10
                have k := k _ (sb.trans s10)
                refine ⟨_, DGet.k (k := .inr w0) (s10 _ _ upd_same), ?_⟩
                rcases kt.get w0 with ⟨e1, e2⟩ | ⟨a', ss, e1, e2, e3⟩
                · rw [show getO whereTb w0 = _ from e1] at k
                  rw [e2]
                  exact ⟨q, [], rfl, .inl (SqL.of upd_same), rfl, rfl, k⟩
                · rw [show getO whereTb w0 = _ from e1] at k
                  rw [e2]
                  refine ⟨a', ss.map V.str, rfl, .inl (SqL.of e3), rfl, flat_strs ss, ?_⟩
                  rw [in_strs]
                  exact k
theorem ok_law_drawn_step (T : Txt K mg w) : FnOk P w K mg base CX0 2 T.f_law_drawn_step T.fd_law_drawn_step ["_law_box_here", "_law_modes"] sp_drawn_step := by
  refine T.F_law_drawn_step.ok sc_law_drawn_step (fun vs H Q E h => ?_) (fun cdv A outer s H vs Q E hr h => ?_)
  · obtain ⟨H0, p, m, n, ms, rfl, _⟩ := h
    rfl
  · obtain ⟨H0, p, m, n, ms, rfl, B, hm, hm0, hmz, hok, hn, k⟩ := h
    refine ⟨_, (pss_cons (ps_set (i := 2) sc_law_drawn_step.nd rfl (Or.inl rfl) (pe_lst (pa_cons pe_str (pa_cons pe_str (pa_cons pe_str (pa_cons pe_str (pa_cons pe_str (pa_cons pe_str (pa_cons pe_str pa_nil)))))))))
        (pss_cons (ps_set (i := 2) sc_law_drawn_step.nd rfl (Or.inl rfl) (pe_op op_cat (pv 2) (pe_lst (pa_cons pe_str (pa_cons pe_str (pa_cons pe_str (pa_cons pe_str (pa_cons pe_str (pa_cons pe_str pa_nil)))))))))
        (pss_cons (ps_if (pt_cmpR op_eq (pe_call (ok_law_take T) hr rfl T.m_law_take T.F_law_take.kp T.b_law_take .nil pass0 (pa_cons (pv 0) (pa_cons pe_int pa_nil))) pe_int (nomark _)) (pss_cons (ps_set (i := 3) sc_law_drawn_step.nd rfl (Or.inl rfl) (pe_ix ix_list (pe_lst (pa_cons pe_str (pa_cons pe_str (pa_cons pe_str (pa_cons pe_str (pa_cons pe_str pa_nil)))))) (pe_call (ok_law_take T) hr rfl T.m_law_take T.F_law_take.kp T.b_law_take .nil pass0 (pa_cons (pv 0) (pa_cons pe_int pa_nil))) (fun _ _ => rfl)))
        (pss_one (ps_ret (pe_tup (pa_cons pe_str (pa_cons (pv 3) (pa_cons (pe_ix ix_list (pv 1) (pe_call (ok_law_take T) hr rfl T.m_law_take T.F_law_take.kp T.b_law_take .nil pass0 (pa_cons (pv 0) (pa_cons (pe_callB (id := "len") call_len_seq (by rfl) T.z_len (by decide +kernel) (pa_cons (pv 1) pa_nil)) pa_nil))) (fun _ _ => rfl)) pa_nil))))))) pss_nil)
        (pss_cons (ps_if (pt_cmpR op_eq (pe_call (ok_law_take T) hr rfl T.m_law_take T.F_law_take.kp T.b_law_take .nil pass0 (pa_cons (pv 0) (pa_cons pe_int pa_nil))) pe_int (nomark _)) (pss_one (ps_ret (pe_tup (pa_cons pe_str (pa_cons (pe_ix ix_list (pe_lst (pa_cons pe_str (pa_cons pe_str pa_nil))) (pe_call (ok_law_take T) hr rfl T.m_law_take T.F_law_take.kp T.b_law_take .nil pass0 (pa_cons (pv 0) (pa_cons pe_int pa_nil))) (fun _ _ => rfl)) pa_nil))))) pss_nil)
        (pss_one (ps_ret (pe_tup (pa_cons (pe_ix ix_list (pv 2) (pe_call (ok_law_take T) hr rfl T.m_law_take T.F_law_take.kp T.b_law_take .nil pass0 (pa_cons (pv 0) (pa_cons pe_int pa_nil))) (fun _ _ => rfl)) pa_nil)))))))), ?_⟩
    refine ⟨(by show 7 ≤ sizeLine; decide), fun l1 hl1 => ?_⟩
    have B1 := B.new (o := .lst ((["look", "again", "border", "key", "put", "claim", "strike"] : List Str).map V.str)) hl1
    refine ⟨_, rfl, (by show 6 ≤ sizeLine; decide), fun l2 hl2 => ?_⟩
    have B2 := B1.1.new (o := .lst ((["view", "read", "move", "switch", "wait", "close"] : List Str).map V.str)) hl2
    refine ⟨l1, l2, _, _, rfl, rfl, B2.1.same _ _ (B2.2 _ _ upd_same), upd_same, (by show 7 + 6 ≤ sizeLine; decide), fun l3 hl3 => ?_⟩
    have B3 := B2.1.new (o := .lst ((["look", "again", "border", "key", "put", "claim", "strike", "view", "read", "move", "switch", "wait", "close"] : List Str).map V.str)) hl3
    have m03 := B1.2.trans (B2.2.trans B3.2)
    have plainOk : ∀ s ∈ (["look", "again", "border", "key", "put", "claim", "strike", "view", "read", "move", "switch", "wait", "close"] : List Str), sOk 16 s := by unfold sOk; decide +kernel
    have whereOk : ∀ s ∈ (["table", "part", "old", "new", "rest"] : List Str), sOk 16 s := by unfold sOk; decide +kernel
    have scanOk : ∀ s ∈ (["new", "rest"] : List Str), sOk 16 s := by unfold sOk; decide +kernel
    refine ⟨_, rfl, _, p, _, 2, rfl, B3.1, by omega, by decide, by decide, fun z1 H1 z10 z11 B4 => ⟨rfl, _, rfl, ?_⟩⟩
    refine ite2 (fun c => ?_) (fun c => ?_)
    · refine ⟨(by show 5 ≤ sizeLine; decide), fun l4 hl4 => ?_⟩
      have B5 := B4.new (o := .lst ((["table", "part", "old", "new", "rest"] : List Str).map V.str)) hl4
      refine ⟨_, rfl, _, p, _, 5, rfl, B5.1, by omega, by decide, by decide, fun z2 H2 z20 z21 B6 => ?_⟩
      obtain ⟨v, hv, hmv⟩ := atI_in (xs := (["table", "part", "old", "new", "rest"] : List Str).map V.str) z20 z21
      refine ⟨l4, _, z2, v, rfl, rfl, SqL.of (B6.same _ _ upd_same), hv, ?_⟩
      obtain ⟨wh, hwh, rfl⟩ := List.mem_map.mp hmv
      have m05 := m03.trans B5.2
      refine ⟨_, rfl, _, rfl, _, rfl, _, rfl, m, _, rfl, .inl (SqL.of (B6.same _ _ (m05 _ _ hm))), _, p, _, ((ms.map V.str).length : Int), rfl, B6, by omega, by rw [List.length_map]; omega, by rw [List.length_map]; omega, fun z3 H3 z30 z31 B7 => ?_⟩
      obtain ⟨v3, hv3, hmv3⟩ := atI_in (xs := ms.map V.str) z30 z31
      refine ⟨m, _, z3, v3, rfl, rfl, SqL.of (B7.same _ _ (m05 _ _ hm)), hv3, ?_⟩
      obtain ⟨md, hmd, rfl⟩ := List.mem_map.mp hmv3
      refine ⟨(by show 3 ≤ sizeLine; decide), fun t ht => ?_⟩
      have B8 := B7.new (o := .tup ((["lock", wh, md] : List Str).map V.str)) ht
      refine k _ _ t ["lock", wh, md] (m05.trans B8.2) (B8.1.mono (by omega)) upd_same (by simp) ?_
      intro s hs
      simp only [List.mem_cons, List.not_mem_nil, or_false] at hs
      rcases hs with rfl | rfl | rfl
      · unfold sOk; decide +kernel
      · exact whereOk _ hwh
      · exact hok _ hmd
    · refine ⟨_, rfl, _, p, _, 6, rfl, B4, by omega, by decide, by decide, fun z2 H2 z20 z21 B5 => ⟨rfl, _, rfl, ?_⟩⟩
      refine ite2 (fun c => ?_) (fun c => ?_)
      · refine ⟨(by show 2 ≤ sizeLine; decide), fun l4 hl4 => ?_⟩
        have B6 := B5.new (o := .lst ((["new", "rest"] : List Str).map V.str)) hl4
        refine ⟨_, rfl, _, p, _, 2, rfl, B6.1, by omega, by decide, by decide, fun z3 H3 z30 z31 B7 => ?_⟩
        obtain ⟨v, hv, hmv⟩ := atI_in (xs := (["new", "rest"] : List Str).map V.str) z30 z31
        refine ⟨l4, _, z3, v, rfl, rfl, SqL.of (B7.same _ _ upd_same), hv, ?_⟩
        obtain ⟨wh, hwh, rfl⟩ := List.mem_map.mp hmv
        refine ⟨(by show 2 ≤ sizeLine; decide), fun t ht => ?_⟩
        have B8 := B7.new (o := .tup ((["scan", wh] : List Str).map V.str)) ht
        refine k _ _ t ["scan", wh] (m03.trans (B6.2.trans B8.2)) (B8.1.mono (by omega)) upd_same (by simp) ?_
        intro s hs
        simp only [List.mem_cons, List.not_mem_nil, or_false] at hs
        rcases hs with rfl | rfl
        · unfold sOk; decide +kernel
        · exact scanOk _ hwh
      · refine ⟨_, rfl, _, rfl, _, p, _, 13, rfl, B5, by omega, by decide, by decide, fun z3 H3 z30 z31 B7 => ?_⟩
        obtain ⟨v, hv, hmv⟩ := atI_in (xs := (["look", "again", "border", "key", "put", "claim", "strike", "view", "read", "move", "switch", "wait", "close"] : List Str).map V.str) z30 z31
        refine ⟨l3, _, z3, v, rfl, rfl, SqL.of (B7.same _ _ upd_same), hv, ?_⟩
        obtain ⟨wd, hwd, rfl⟩ := List.mem_map.mp hmv
        refine ⟨(by show 1 ≤ sizeLine; decide), fun t ht => ?_⟩
        have B8 := B7.new (o := .tup (([wd] : List Str).map V.str)) ht
        refine k _ _ t [wd] (m03.trans B8.2) (B8.1.mono (by omega)) upd_same (by simp) ?_
        intro s hs
        rw [List.mem_singleton.mp hs]
        exact plainOk _ hwd
theorem ok_law_bent (T : Txt K mg w) : FnOk P w K mg base CX0 2 T.f_law_bent T.fd_law_bent ["_law_box_here", "_law_step"] (sp_bent K) := by
  refine T.F_law_bent.ok sc_law_bent (fun vs H Q E h => ?_) (fun cdv A outer s H vs Q E hr h => ?_)
  · obtain ⟨H0, p, t, n, ss, rfl, _⟩ := h
    rfl
  · obtain ⟨H0, p, t, n, ss, rfl, B, ht, hz, hok, hn, k⟩ := h
    refine ⟨_, (pss_cons (ps_set (i := 2) sc_law_bent.nd rfl (Or.inl rfl) (pe_callTy (T := "list") call_list_of (by rfl) T.z_list (by decide +kernel) (pa_cons (pv 1) pa_nil)))
        (pss_cons (ps_set (i := 3) sc_law_bent.nd rfl (Or.inl rfl) (pe_ix ix_list (pe_lst (pa_cons pe_str (pa_cons pe_str (pa_cons pe_str (pa_cons pe_str (pa_cons pe_str (pa_cons pe_int (pa_cons pe_non (pa_cons pe_str (pa_cons pe_str (pa_cons pe_str (pa_cons pe_str pa_nil)))))))))))) (pe_call (ok_law_take T) hr rfl T.m_law_take T.F_law_take.kp T.b_law_take .nil pass0 (pa_cons (pv 0) (pa_cons pe_int pa_nil))) (fun _ _ => rfl)))
        (pss_cons (ps_par (i := 4) (j := 5) (by rfl) sc_law_bent.nd rfl rfl (by decide) rfl rfl (pa_cons (pe_call (ok_law_take T) hr rfl T.m_law_take T.F_law_take.kp T.b_law_take .nil pass0 (pa_cons (pv 0) (pa_cons (pe_op op_add (pe_callB (id := "len") call_len_seq (by rfl) T.z_len (by decide +kernel) (pa_cons (pv 2) pa_nil)) pe_int) pa_nil))) (pa_cons (pe_call (ok_law_take T) hr rfl T.m_law_take T.F_law_take.kp T.b_law_take .nil pass0 (pa_cons (pv 0) (pa_cons pe_int pa_nil))) pa_nil)) (by rfl))
        (C8.pss_cut (ps_if (pt_cmpR op_eq (pv 5) pe_int (nomark _)) (pss_one (ps_expr (pe_bm PySem.F.plainAttrs_list PySem.F.slot_list_insert PySem.F.type_list_insert mt_insert (pv 2) (pa_cons (pv 4) (pa_cons (pv 3) pa_nil))))) pss_nil)
        (C8.pss_cut (ps_if (PW.pt (pw_and (pt_cmpR op_eq (pv 5) pe_int (nomark _)) (pw_and1 (pt_cmpR op_lt (pv 4) (pe_callB (id := "len") call_len_seq (by rfl) T.z_len (by decide +kernel) (pa_cons (pv 2) pa_nil)) (nomark _))))) (pss_one (ps_asg (pv 3) (pg_sub (pv 2) (pv 4) set_list))) pss_nil)
        (pss_cons (ps_if (pt_cmpR op_eq (pv 5) pe_int (nomark _)) (pss_one (ps_ret (pv 2))) pss_nil)
        (pss_cons (ps_if (pt_cmpR op_eq (pv 5) pe_int (nomark _)) (pss_one (ps_ret (pe_callTy (T := "tuple") call_tuple_of (by rfl) T.z_tuple (by decide +kernel) (pa_cons (pe_slice sl_list (pv 2) po_none (po_some (pe_un un_neg pe_int))) pa_nil)))) pss_nil)
        (pss_one (ps_ret (pe_callTy (T := "tuple") call_tuple_of (by rfl) T.z_tuple (by decide +kernel) (pa_cons (pv 2) pa_nil))))))))))), ?_⟩
    have pn : ∀ {H0 H' : Hp} {m : Nat}, BoxIn H0 H' p m → ∀ {t : Addr}, H' t = none → t ≠ p := fun {H0 H' m} b {t} h => by
      obtain ⟨_, _, _, hp, _⟩ := b.box
      exact (ne_of_none hp h).symm
    refine ⟨_, rfl, t, _, rfl, .inr (SqT.of (B.same _ _ ht)), fun l hl => ?_⟩
    have hlp := pn B hl
    have hl0 : H0 l = none := B.same.free hl
    have B1 := B.keep (same_new (o := .lst (ss.map V.str)) hl)
    refine ⟨(by show 11 ≤ sizeLine; decide), fun l1 hl1 => ?_⟩
    have hl1' : l ≠ l1 := fun e => by rw [← e, upd_same] at hl1; cases hl1
    have B2 := B1.all.1.new (o := .lst [.str "", .str "table", .str "lock", .str "old", .str "end", .int 5, .non, .str "A", .str "toolonger", .str "pq", .str "share"]) hl1
    refine ⟨_, rfl, _, p, _, 11, rfl, B2.1, by omega, by decide, by decide, fun z1 H1 z10 z11 B3 => ?_⟩
    obtain ⟨odd, hv, hmv⟩ := atI_in (xs := [V.str "", .str "table", .str "lock", .str "old", .str "end", .int 5, .non, .str "A", .str "toolonger", .str "pq", .str "share"]) z10 z11
    refine ⟨l1, _, z1, odd, rfl, rfl, SqL.of (B3.same _ _ upd_same), hv, ?_⟩
    have hodd : At odd := by
      simp only [List.mem_cons, List.not_mem_nil, or_false] at hmv
      rcases hmv with rfl | rfl | rfl | rfl | rfl | rfl | rfl | rfl | rfl | rfl | rfl
      case inr.inr.inr.inr.inr.inl => exact .inr (.inl rfl)
      case inr.inr.inr.inr.inr.inr.inl => exact .inr (.inr rfl)
      all_goals exact .inl ⟨_, rfl, by unfold sOk; decide +kernel⟩
    have hl3 : H1 l = some (.lst (ss.map V.str)) := B3.same _ _ (by rw [upd_ne hl1', but_ne hlp, upd_same])
    have B4 := B3.low (B1.all.2.trans B2.2)
    refine ⟨_, rfl, _, rfl, l, _, rfl, .inl (SqL.of hl3), _, _, rfl, rfl, _, p, _, ((ss.map V.str).length : Int) + 1, rfl, B4.all.1, by omega, by omega, by rw [List.length_map]; omega, fun z2 H2 z20 z21 B5 => ?_⟩
    refine ⟨_, rfl, _, p, _, 5, rfl, B5, by omega, by decide, by decide, fun z3 H3 z30 z31 B6 => ⟨_, _, rfl, ?_⟩⟩
    have hl6 : H3 l = some (.lst (ss.map V.str)) := B6.same _ _ (by rw [but_ne hlp]; exact hl3)
    have B7 := (B6.low B4.all.2).mono (m := n + 10) (by omega)
    refine ⟨fun σ H' => ∃ xs : List V, σ = [some (.ref p), some (.ref t), some (.ref l), some odd, some (.int z2), some (.int z3)] ∧ H' l = some (.lst xs) ∧ xs.length ≤ 4 ∧ (∀ v ∈ xs, At v) ∧ BoxIn H0 H' p (n + 10), ?_, ?_⟩
    · refine ⟨_, rfl, rfl, _, rfl, ?_⟩
      refine ite2 (fun c => ?_) (fun c => ?_)
      · refine ⟨_, rfl, .inl ⟨rfl, _, .inl (.inl hl6)⟩, _, rfl, _, rfl, l, _, z2, odd, rfl, rfl, hl6, ?_, z20, ?_, ?_⟩
        · rw [List.length_map]
          exact Nat.lt_of_le_of_lt hz (by decide)
        · rw [List.length_map] at z21
          omega
        · refine ⟨_, rfl, upd_same, ?_, fun v hv => ?_, B7.mut hlp hl0⟩
          · simp only [List.length_append, List.length_take, List.length_drop, List.length_map, List.length_cons, List.length_nil]
            omega
          · rcases List.mem_append.mp hv with q | q
            · rcases List.mem_append.mp q with q | q
              · exact at_strs hok v (List.mem_of_mem_take q)
              · rw [List.mem_singleton.mp q]
                exact hodd
            · exact at_strs hok v (List.mem_of_mem_drop q)
      · exact ⟨_, rfl, hl6, by rw [List.length_map]; omega, at_strs hok, B7⟩
    rintro σ H4 ⟨xs, rfl, hl4, hx, hat, B8⟩
    refine ⟨fun σ H' => ∃ xs : List V, σ = [some (.ref p), some (.ref t), some (.ref l), some odd, some (.int z2), some (.int z3)] ∧ H' l = some (.lst xs) ∧ xs.length ≤ 4 ∧ (∀ v ∈ xs, At v) ∧ BoxIn H0 H' p (n + 10), ?_, ?_⟩
    · refine ⟨_, rfl, rfl, _, rfl, ?_⟩
      refine ite2 (fun c => ?_) (fun c => ?_)
      · refine ⟨_, rfl, _, rfl, l, _, rfl, .inl (SqL.of hl4), _, _, rfl, rfl, _, rfl, ?_⟩
        refine ite2 (fun c => ?_) (fun c => ?_)
        · have c' := of_decide_eq_true c
          refine ⟨_, rfl, _, rfl, _, rfl, l, _, z2, z2.toNat, rfl, rfl, hl4, ?_, ?_⟩
          · show (if 0 ≤ z2 then (if z2 < xs.length then some z2.toNat else none) else _) = _
            rw [if_pos z20, if_pos c']
          · refine ⟨_, rfl, upd_same, by rw [List.length_set]; exact hx, fun v hv => ?_, B8.mut hlp hl0⟩
            rcases List.mem_or_eq_of_mem_set hv with q | q
            · exact hat v q
            · rw [q]
              exact hodd
        · exact ⟨_, rfl, hl4, hx, hat, B8⟩
      · exact ⟨_, rfl, hl4, hx, hat, B8⟩
    rintro σ H5 ⟨ys, rfl, hl5, hy, hat2, B9⟩
    refine ⟨_, rfl, rfl, _, rfl, ?_⟩
    refine ite2 (fun c => ?_) (fun c => ?_)
    · refine ⟨_, rfl, ?_⟩
      exact k (but H5 p) H5 (.ref l) B9.all.2 B9.all.1 (ats_lst hat2 (by rw [but_ne hlp]; exact hl5))
    · refine ⟨_, rfl, rfl, _, rfl, ?_⟩
      refine ite2 (fun c => ?_) (fun c => ?_)
      · refine ⟨_, rfl, _, rfl, _, rfl, l, _, rfl, SqL.of hl5, fun q hq => ?_⟩
        have Bq := B9.all.1.new (o := .lst (cutV ys none (some (-1)))) hq
        refine ⟨q, _, rfl, .inl ⟨SqL.of upd_same, fun r hr => ?_⟩⟩
        have Ba := Bq.1.new (o := .tup (cutV ys none (some (-1)))) hr
        refine k _ _ (.ref r) (B9.all.2.trans (Bq.2.trans Ba.2)) Ba.1 (ats_tup (fun v hv => hat2 v ?_) (Nat.le_trans (cutV_length _ _ _) (by omega)) upd_same)
        unfold cutV at hv
        exact List.mem_of_mem_drop (List.mem_of_mem_take hv)
      · refine ⟨_, rfl, l, _, rfl, .inl ⟨SqL.of hl5, fun r hr => ?_⟩⟩
        have Ba := B9.all.1.new (o := .tup ys) hr
        exact k _ _ (.ref r) (B9.all.2.trans Ba.2) Ba.1 (ats_tup hat2 (by omega) upd_same)
theorem ok_law_told (T : Txt K mg w) : FnOk P w K mg base CX0 5 T.f_law_told T.fd_law_told ["_law_thing", "_law_sort"] (sp_told K) := by
  refine T.F_law_told.ok sc_law_told (fun vs H Q E h => ?_) (fun cdv A outer s H vs Q E hr h => ?_)
  · obtain ⟨x, y, o, d, rfl, _⟩ := h
    rfl
  · obtain ⟨x, y, o, d, rfl, hx, hsh, hy, sd, nk, k⟩ := h
    refine ⟨_, (pss_one (ps_try_manyAs (i := 2) (n := "e") rfl rfl sc_law_told.nd rfl rfl takes0 (fun W pn xe tk _ => by exact (pss_one (ps_ret (pe_lst (pa_cons pe_str (pa_cons (pe_kw0 (g := kwg_is_step_0_kind_value) (ok_is_step T) hr rfl T.m_is_step T.F_is_step.kp T.k_is_step_0_kind_value (fun σ => passAt tk σ) (pk_cons (pv 1) (pk_cons (pv 0) pk_nil))) pa_nil))))))
          (HdsAs.cons ⟨rfl, by decide, Or.inl T.g_NoProgram⟩ (fun a oe cls d pn hz hf => by exact (pss_one (ps_ret (pe_lst (pa_cons pe_str (pa_cons (pe_xf T.y_NoProgram T.n_NoProgram hz hf (pv 2)) pa_nil)))))) HdsAs.nil))), ?_⟩
    have lk : ∀ v : V, List.lookup ("kind" : Str) [(("kind" : Str), v)] = some v := fun v => by simp [List.lookup]
    refine ⟨_, rfl, _, rfl, rfl, rfl, x, y, o, d, rfl, hx, hsh, hy, sd, fun e d H' nd hd sm => ?_, fun kd e hk => ?_⟩
    · exact ⟨true, T.e_NoProgram_NoProgram, fun _ a ha => ⟨_, rfl, rfl, rfl, d, _, y, rfl, hd, lk y, (by show 2 ≤ sizeLine; decide), fun p hp => k p _ (sm.trans (same_new hp)) (sm.free hp) upd_same⟩, fun q => nomatch q⟩
    · exfalso
      rw [e, kindD_str, decide_eq_true hk] at nk
      cases nk
theorem ok_law (T : Txt K mg w) : FnOk P w K mg base CX0 6 T.f_law T.fd_law ["_law_script"] (sp_law K) := by
  refine T.F_law.ok sc_law (fun vs H Q E h => ?_) (fun cdv A outer s H vs Q E hr h => ?_)
  · obtain ⟨a, ns, rfl, _⟩ := h
    rfl
  · obtain ⟨a, ns, rfl, hS, hlen, k⟩ := h
    refine ⟨_, (pss_cons (ps_for PassesOwn.never rfl (pi_range1 rfl T.z_range (pa_cons (pe_callB (id := "max") (call_max2 rfl) (by rfl) T.z_max (by decide +kernel) (pa_cons pe_int (pa_cons (pe_callB (id := "min") (call_min2 rfl) (by rfl) T.z_min (by decide +kernel) (pa_cons pe_int (pa_cons (pe_callB (id := "len") call_len_seq (by rfl) T.z_len (by decide +kernel) (pa_cons (pv 0) pa_nil)) pa_nil))) pa_nil))) pa_nil)) (pg_name (i := 1) sc_law.nd rfl (Or.inl rfl))
          (pss_cons (ps_set (i := 2) sc_law.nd rfl (Or.inl rfl) (pe_call (ok_law_box T) (hr.mono (by decide)) rfl T.m_law_box T.F_law_box.kp T.b_law_box .nil pass0 (pa_cons (pe_call (ok_law_cell T) (hr.mono (by decide)) rfl T.m_law_cell T.F_law_cell.kp T.b_law_cell .nil pass0 (pa_cons (pv 0) (pa_cons (pv 1) pa_nil))) pa_nil)))
        (pss_cons (ps_set (i := 3) sc_law.nd rfl (Or.inl rfl) (pe_op op_cat (pe_call (ok_law_names T) (hr.mono (by decide)) rfl T.m_law_names T.F_law_names.kp T.b_law_names .nil pass0 (pa_cons (pv 2) (pa_cons pe_int pa_nil))) (pe_lst (pa_cons pe_str (pa_cons pe_str pa_nil)))))
        (pss_cons (ps_for PassesOwn.never rfl (pi_range1 rfl T.z_range (pa_cons pe_int pa_nil)) (pg_name (i := 4) sc_law.nd rfl (Or.inl rfl))
          (pss_cons (ps_set (i := 5) sc_law.nd rfl (Or.inl rfl) (pe_ix ix_list (pe_lst (pa_cons (pe_call (ok_law_drawn_step T) (hr.mono (by decide)) rfl T.m_law_drawn_step T.F_law_drawn_step.kp T.b_law_drawn_step .nil pass0 (pa_cons (pv 2) (pa_cons (pv 3) pa_nil))) (pa_cons (pe_tup (pa_cons pe_str pa_nil)) pa_nil))) (pe_callTy (T := "int") call_int1 (by rfl) T.z_int (by decide +kernel) (pa_cons (pe_cmpR op_eq (pe_call (ok_law_take T) (hr.mono (by decide)) rfl T.m_law_take T.F_law_take.kp T.b_law_take .nil pass0 (pa_cons (pv 2) (pa_cons pe_int pa_nil))) pe_int (nomark _)) pa_nil)) (fun _ _ => rfl)))
        (pss_cons (ps_set (i := 6) sc_law.nd rfl (Or.inl rfl) (pe_ix ix_list (pe_lst (pa_cons pe_non (pa_cons pe_int (pa_cons pe_str (pa_cons (pe_lst pa_nil) (pa_cons (pe_tup pa_nil) (pa_cons pe_dnewK (pa_cons (pe_tup (pa_cons pe_str (pa_cons pe_str pa_nil))) (pa_cons (pe_tup (pa_cons pe_int pa_nil)) (pa_cons (pe_tup (pa_cons pe_str pa_nil)) pa_nil)))))))))) (pe_call (ok_law_take T) (hr.mono (by decide)) rfl T.m_law_take T.F_law_take.kp T.b_law_take .nil pass0 (pa_cons (pv 2) (pa_cons pe_int pa_nil))) (fun _ _ => rfl)))
        (pss_one (ps_for PassesOwn.never rfl (pi_list (pe_lst (pa_cons (pv 5) (pa_cons (pe_call (ok_law_bent T) (hr.mono (by decide)) rfl T.m_law_bent T.F_law_bent.kp T.b_law_bent .nil pass0 (pa_cons (pv 2) (pa_cons (pv 5) pa_nil))) (pa_cons (pv 6) pa_nil))))) (pg_name (i := 7) sc_law.nd rfl (Or.inl rfl))
          (pss_one (ps_for PassesOwn.never rfl (pi_list (pe_call0 (ok_law_kinds T) (hr.mono (by decide)) rfl T.m_law_kinds T.F_law_kinds.kp T.b_law_kinds .nil pass0)) (pg_name (i := 8) sc_law.nd rfl (Or.inl rfl))
          (pss_cons (ps_set (i := 9) sc_law.nd rfl (Or.inl rfl) (pe_call (ok_is_step T) (hr.mono (by decide)) rfl T.m_is_step T.F_is_step.kp T.b_is_step .nil passL (pa_cons (pv 7) (pa_cons (pv 8) pa_nil))))
        (pss_one (ps_if (PW.pt (pw_or (pt_not (pt_val (pe_callB (id := "isinstance") call_isi (by rfl) T.z_isinstance (by decide +kernel) (pa_cons (pv 9) (pa_cons (pe_bltn (v := .ty "bool") (u := .type "bool") (by rfl) T.z_bool (by decide +kernel) rfl) pa_nil))))) (pw_or1 (pt_cmpR op_ne (pv 9) (pe_call (ok_law_is_step T) (hr.mono (by decide)) rfl T.m_law_is_step T.F_law_is_step.kp T.b_law_is_step .nil pass0 (pa_cons (pv 7) (pa_cons (pv 8) pa_nil))) (nomark _))))) (pss_one (ps_ret pe_bl)) pss_nil))))))))))
        (pss_cons (ps_set (i := 10) sc_law.nd rfl (Or.inl rfl) (pe_ix ix_list (pe_lst (pa_cons pe_non (pa_cons pe_int (pa_cons pe_str (pa_cons pe_str (pa_cons pe_str (pa_cons (pe_tup (pa_cons pe_str pa_nil)) (pa_cons (pe_lst pa_nil) (pa_cons pe_bl pa_nil))))))))) (pe_call (ok_law_take T) (hr.mono (by decide)) rfl T.m_law_take T.F_law_take.kp T.b_law_take .nil pass0 (pa_cons (pv 2) (pa_cons pe_int pa_nil))) (fun _ _ => rfl)))
        (pss_one (ps_if (PW.pt (pw_or (pt_cmpR (op_neS hr.units) (pe_call (ok_law_told T) hr rfl T.m_law_told T.F_law_told.kp T.b_law_told .nil pass0 (pa_cons (pe_tup (pa_cons pe_str pa_nil)) (pa_cons (pv 10) pa_nil))) (pe_lst (pa_cons pe_str (pa_cons (pv 10) pa_nil))) (nomark _)) (pw_or1 (pt_cmpR (op_neS hr.units) (pe_call (ok_law_told T) hr rfl T.m_law_told T.F_law_told.kp T.b_law_told .nil pass0 (pa_cons pe_int (pa_cons (pv 10) pa_nil))) (pe_lst (pa_cons pe_str (pa_cons (pv 10) pa_nil))) (nomark _))))) (pss_one (ps_ret pe_bl)) pss_nil)))))))
        (pss_one (ps_ret pe_bl))), ?_⟩
    refine ⟨_, rfl, a, _, rfl, .inl hS, _, _, rfl, _, _, rfl, _, rfl, ?_, ?_, for_range (fun i σ H' => ∃ v1 v2 v3 v4 v5 v6 v7 v8 v9 v10, σ = [some (.ref a), v1, v2, v3, v4, v5, v6, v7, v8, v9, v10] ∧ Same H H') ⟨none, none, none, none, none, none, none, none, none, none, rfl, Same.refl H⟩ ?_ ?_⟩
    · repeat' split
      all_goals omega
    · repeat' split
      all_goals omega
    · rintro i σ H1 hi ⟨v1, v2, v3, v4, v5, v6, v7, v8, v9, v10, rfl, s1⟩
      refine ⟨_, rfl, _, rfl, a, ns, _, rfl, s1.seq hS, (by omega), fun z => ⟨z, rfl, fun p o hp bx => ?_⟩⟩
      have B : BoxIn H1 (upd H1 p o) p 0 := ⟨same_new hp, hp, bx⟩
      refine ⟨_, rfl, H1, p, 0, 3, rfl, B, by decide, by decide, fun q H2 ss s2 hq0 hqp hq hlen3 hok B2 => ?_⟩
      have B3 := B2.all.1
      have m3 := B2.all.2
      refine ⟨(by show 2 ≤ sizeLine; decide), fun l1 hl1 => ?_⟩
      have B4 := B3.new (o := .lst [.str "read", .str "end"]) hl1
      refine ⟨q, l1, _, _, rfl, rfl, B4.1.same _ _ (B4.2 _ _ (by rw [but_ne hqp]; exact hq)), upd_same, ?_, fun m hm => ?_⟩
      · rw [List.length_map, hlen3]
        show 3 + 2 ≤ sizeLine
        decide
      have B5 := B4.1.new (o := .lst ((ss ++ (["read", "end"] : List Str)).map V.str)) hm
      have hcat : ss.map V.str ++ [V.str "read", .str "end"] = (ss ++ (["read", "end"] : List Str)).map V.str := by
        rw [List.map_append]
        rfl
      rw [hcat]
      obtain ⟨G, sG, BG, hmG⟩ : ∃ G, Same H1 G ∧ BoxIn G (upd (upd H2 l1 (.lst [.str "read", .str "end"])) m (.lst ((ss ++ (["read", "end"] : List Str)).map V.str))) p 40 ∧ G m = some (.lst ((ss ++ (["read", "end"] : List Str)).map V.str)) := ⟨_, m3.trans (B4.2.trans B5.2), B5.1.mono (by omega), upd_same⟩
      have mlen : (ss ++ (["read", "end"] : List Str)).length = 5 := by rw [List.length_append, hlen3]; rfl
      have mok : ∀ s ∈ ss ++ (["read", "end"] : List Str), sOk 16 s := fun s hs => by
        rcases List.mem_append.mp hs with q | q
        · exact hok s q
        · have all : ∀ s ∈ (["read", "end"] : List Str), sOk 16 s := by unfold sOk; decide +kernel
          exact all s q
      refine ⟨6, rfl, by decide, by decide, for_range (fun j σ H' => ∃ v4 v5 v6 v7 v8 v9 : Option V, σ = [some (.ref a), some (.int (0 + (i : Int))), some (.ref p), some (.ref m), v4, v5, v6, v7, v8, v9, v10] ∧ BoxIn G H' p (40 + 40 * j)) ⟨v4, v5, v6, v7, v8, v9, rfl, BG⟩ ?_ ?_⟩
      · rintro j σ H3 hj ⟨v4, v5, v6, v7, v8, v9, rfl, B6⟩
        have hj : j < 6 := hj
        refine ⟨_, rfl, _, rfl, G, p, m, _, _, rfl, B6, hmG, by omega, by omega, mok, by omega, fun G1 H4 t1 s1' sG1 B7 ht1 hl1' hok1 => ?_⟩
        refine ⟨(by show 1 ≤ sizeLine; decide), fun t2 ht2 => ⟨(by show 2 ≤ sizeLine; decide), fun l2 hl2 => ?_⟩⟩
        have B8 := B7.new (o := .tup [.str "end"]) ht2
        have B9 := B8.1.new (o := .lst [.ref t1, .ref t2]) hl2
        refine ⟨_, rfl, _, p, _, 8, rfl, B9.1, by omega, by decide, by decide, fun z H5 z0 z1 B10 => ⟨rfl, .inr ⟨_, rfl, ?_⟩⟩⟩
        obtain ⟨ts, sst, hts, ht3, hsst, hok3⟩ : ∃ (ts : Addr) (sst : List Str), atI [V.ref t1, .ref t2] (if decide (V.int z = V.int 0) = true then 1 else 0) = some (.ref ts) ∧ upd (upd G1 t2 (.tup [.str "end"])) l2 (.lst [.ref t1, .ref t2]) ts = some (.tup (sst.map V.str)) ∧ sst.length ≤ 3 ∧ ∀ s ∈ sst, sOk 16 s := by
          by_cases c : decide (V.int z = V.int 0) = true
          · rw [if_pos c]
            exact ⟨t2, ["end"], rfl, B9.2 _ _ upd_same, by decide, by unfold sOk; decide +kernel⟩
          · rw [if_neg c]
            exact ⟨t1, s1', rfl, B9.2 _ _ (B8.2 _ _ ht1), hl1', hok1⟩
        refine ⟨l2, _, _, _, rfl, rfl, SqL.of (B10.same _ _ upd_same), hts, ?_⟩
        obtain ⟨G2, sG2, C, ht4⟩ : ∃ G2, Same G G2 ∧ BoxIn G2 H5 p (60 + 40 * j) ∧ G2 ts = some (.tup (sst.map V.str)) := ⟨_, sG1.trans (B8.2.trans B9.2), B10.mono (by omega), ht3⟩
        clear B7 B8 B9 B10 ht3 hts
        refine ⟨(by show 0 ≤ sizeLine; decide), fun o1 ho1 => ⟨(by show 0 ≤ sizeLine; decide), fun o2 ho2 => ?_⟩⟩
        have b1 := C.new (o := .lst []) ho1
        have b2 := b1.1.new (o := .tup []) ho2
        intro o3 ho3
        have b3 := b2.1.new (o := .dK []) ho3
        refine ⟨(by show 2 ≤ sizeLine; decide), fun o4 ho4 => ⟨(by show 1 ≤ sizeLine; decide), fun o5 ho5 => ⟨(by show 1 ≤ sizeLine; decide), fun o6 ho6 => ⟨(by show 9 ≤ sizeLine; decide), fun l3 hl3 => ?_⟩⟩⟩⟩
        have b4 := b3.1.new (o := .tup [.str "look", .str "look"]) ho4
        have b5 := b4.1.new (o := .tup [.int 5]) ho5
        have b6 := b5.1.new (o := .tup [.str "lock"]) ho6
        have b7 := b6.1.new (o := .lst [.non, .int 5, .str "look", .ref o1, .ref o2, .ref o3, .ref o4, .ref o5, .ref o6]) hl3
        refine ⟨_, rfl, _, p, _, 9, rfl, b7.1, by omega, by decide, by decide, fun z H6 z0 z1 B10 => ?_⟩
        obtain ⟨odd, hv, hmv⟩ := atI_in (xs := [V.non, .int 5, .str "look", .ref o1, .ref o2, .ref o3, .ref o4, .ref o5, .ref o6]) z0 z1
        refine ⟨l3, _, z, odd, rfl, rfl, SqL.of (B10.same _ _ upd_same), hv, ?_⟩
        obtain ⟨G3, sG3, C, od, vod, shod⟩ : ∃ G3, Same G2 G3 ∧ BoxIn G3 H6 p (61 + 40 * j) ∧ ∃ od, VD K G3 odd od ∧ shortO od := by
          have m7 := b7.2
          have m6 := b6.2.trans m7
          have m5 := b5.2.trans m6
          have m4 := b4.2.trans m5
          have m3 := b3.2.trans m4
          have m2 := b2.2.trans m3
          refine ⟨_, b1.2.trans m2, B10.mono (by omega), ?_⟩
          simp only [List.mem_cons, List.not_mem_nil, or_false] at hmv
          rcases hmv with rfl | rfl | rfl | rfl | rfl | rfl | rfl | rfl | rfl
          · exact ⟨_, .dat .non (by decide +kernel) (fun _ e => nomatch e), fun ds e => by cases e⟩
          · exact ⟨_, .dat (.int 5) (by decide +kernel) (fun _ e => nomatch e), fun ds e => by cases e⟩
          · exact ⟨_, .dat (.str _) (by decide +kernel) (fun s e => by cases e; decide +kernel), fun ds e => by cases e⟩
          · exact ats_lst (xs := []) (fun v h => by cases h) (m2 _ _ upd_same)
          · exact ats_tup (xs := []) (fun v h => by cases h) (by decide) (m3 _ _ upd_same)
          · exact ⟨none, .dic (m4 _ _ upd_same), fun ds e => by cases e⟩
          · exact ats_tup (xs := (["look", "look"] : List Str).map V.str) (at_strs (by unfold sOk; decide +kernel)) (by decide) (m5 _ _ upd_same)
          · exact ats_tup (xs := [.int 5]) (fun v h => by rw [List.mem_singleton.mp h]; exact .inr (.inl rfl)) (by decide) (m6 _ _ upd_same)
          · exact ats_tup (xs := (["lock"] : List Str).map V.str) (at_strs (by unfold sOk; decide +kernel)) (by decide) (m7 _ _ upd_same)
        clear b1 b2 b3 b4 b5 b6 b7 B10 hmv hv
        refine ⟨_, rfl, _, rfl, _, rfl, G3, p, ts, _, sst, rfl, C, sG3 _ _ ht4, hsst, hok3, by omega, fun G4 H7 vb sG4 C ⟨ob, vbo, shb⟩ => ⟨_, rfl, (by show 3 ≤ sizeLine; decide), fun lt hlt => ?_⟩⟩
        have ht7 : G4 ts = some (.tup (sst.map V.str)) := sG4 _ _ (sG3 _ _ ht4)
        have vod := vod.mono sG4
        have s8 := same_new (o := .lst [.ref ts, vb, odd]) hlt
        have k8 : Same G4 (upd H7 lt (.lst [.ref ts, vb, odd])) := C.same.trans s8
        have C8 := C.keep s8
        have each : ∀ x ∈ [V.ref ts, vb, odd], ∃ o, VD K G4 x o ∧ shortO o := fun x hx => by
          simp only [List.mem_cons, List.not_mem_nil, or_false] at hx
          rcases hx with rfl | rfl | rfl
          · exact ats_tup (at_strs hok3) (by rw [List.length_map]; omega) ht7
          · exact ⟨ob, vbo, shb⟩
          · exact ⟨od, vod, shod⟩
        refine ⟨lt, rfl, ⟨_, SqL.of upd_same⟩, for_list (K := K) (a := lt) (xs := [.ref ts, vb, odd]) (fun i' σ H' => ∃ v7 v8 v9 : Option V, σ = [some (.ref a), some (.int (0 + (i : Int))), some (.ref p), some (.ref m), some (.int (0 + (j : Int))), some (.ref ts), some odd, v7, v8, v9, v10] ∧ Same (upd H7 lt (.lst [.ref ts, vb, odd])) H') ⟨v7, v8, v9, rfl, Same.refl _⟩ (fun i' σ H' _ ⟨_, _, _, _, s⟩ => SqL.of (s _ _ upd_same)) ?_ ?_⟩
        · rintro i' x σ H8 hx ⟨v7, v8, v9, rfl, s9⟩
          obtain ⟨o, vo, sho⟩ := each x (List.mem_of_getElem? hx)
          have vo := vo.mono (k8.trans s9)
          refine ⟨rfl, fun lk hlk => ?_⟩
          have s10 := same_new (o := .lst (kindsL.map V.str)) hlk
          refine ⟨lk, rfl, ⟨_, SqL.of upd_same⟩, for_list (K := K) (a := lk) (xs := kindsL.map V.str) (fun i2 σ H' => ∃ v8 v9 : Option V, σ = [some (.ref a), some (.int (0 + (i : Int))), some (.ref p), some (.ref m), some (.int (0 + (j : Int))), some (.ref ts), some odd, some x, v8, v9, v10] ∧ Same (upd H8 lk (.lst (kindsL.map V.str))) H') ⟨v8, v9, rfl, Same.refl _⟩ (fun i2 σ H' _ ⟨_, _, _, s⟩ => SqL.of (s _ _ upd_same)) ?_ ?_⟩
          · rintro i2 y σ H9 hy ⟨v8, v9, rfl, s11⟩
            rw [List.getElem?_map] at hy
            obtain ⟨kd, hkd, rfl⟩ := Option.map_eq_some_iff.mp hy
            have hk : kd ∈ kindsL := List.mem_of_getElem? hkd
            have vo := vo.mono (s10.trans s11)
            have all : ∀ s ∈ kindsL, SeqAt.shaped (.str s) = true := by decide +kernel
            refine ⟨_, rfl, _, rfl, x, .str kd, o, .str kd, rfl, vo, sho, .str kd, all kd hk, (fun e => ?_), fun k2 e hk2 H10 s12 => ?_⟩
            · rw [kindD_str, decide_eq_true hk] at e
              cases e
            · injection e with e
              subst e
              refine ⟨_, rfl, _, _, _, _, _, rfl, .ty _, .base (.bl _), kit_ty (r := true) (by decide +kernel), _, rfl, iteF ?_⟩
              refine ⟨_, rfl, _, rfl, _, rfl, x, o, kd, rfl, vo.mono s12, sho, hk, fun H11 s13 => ⟨rfl, _, rfl, ?_⟩⟩
              refine iteFe (by simp) ?_
              exact ⟨_, _, rfl, s11.trans (s12.trans s13)⟩
          · rintro σ H9 ⟨v8, v9, rfl, s11⟩
            exact ⟨_, _, _, rfl, s9.trans (s10.trans s11)⟩
        · rintro σ H8 ⟨v7, v8, v9, rfl, s9⟩
          exact ⟨_, _, _, _, _, _, rfl, ((C8.low (sG2.trans (sG3.trans sG4))).keep s9).mono (by omega)⟩
      · rintro σ H3 ⟨v4, v5, v6, v7, v8, v9, rfl, B6⟩
        refine ⟨(by show 1 ≤ sizeLine; decide), fun o1 ho1 => ⟨(by show 0 ≤ sizeLine; decide), fun o2 ho2 => ⟨(by show 8 ≤ sizeLine; decide), fun l3 hl3 => ?_⟩⟩⟩
        have b1 := B6.new (o := .tup [.str "put"]) ho1
        have b2 := b1.1.new (o := .lst []) ho2
        have b3 := b2.1.new (o := .lst [.non, .int 5, .str "", .str "move", .str "puts", .ref o1, .ref o2, .bl true]) hl3
        refine ⟨_, rfl, _, p, _, 8, rfl, b3.1, by omega, by decide, by decide, fun z H6 z0 z1 B10 => ?_⟩
        obtain ⟨st, hv, hmv⟩ := atI_in (xs := [V.non, .int 5, .str "", .str "move", .str "puts", .ref o1, .ref o2, .bl true]) z0 z1
        refine ⟨l3, _, z, st, rfl, rfl, SqL.of (B10.same _ _ upd_same), hv, ?_⟩
        obtain ⟨G3, sG3, C, d, vd, sd, nk, sv⟩ : ∃ G3, Same G G3 ∧ BoxIn G3 H6 p 400 ∧ ∃ d, Dp K G3 st d ∧ SeqAt.shaped d = true ∧ kindD d = false ∧ sureV st = true := by
          have m3 := b3.2
          have m2 := b2.2.trans m3
          refine ⟨_, b1.2.trans m2, B10.mono (by omega), ?_⟩
          simp only [List.mem_cons, List.not_mem_nil, or_false] at hmv
          rcases hmv with rfl | rfl | rfl | rfl | rfl | rfl | rfl | rfl
          · exact ⟨_, .non, by decide +kernel, by decide +kernel, rfl⟩
          · exact ⟨_, .int 5, by decide +kernel, by decide +kernel, rfl⟩
          · exact ⟨_, .str _, by decide +kernel, by decide +kernel, rfl⟩
          · exact ⟨_, .str _, by decide +kernel, by decide +kernel, rfl⟩
          · exact ⟨_, .str _, by decide +kernel, by decide +kernel, rfl⟩
          · exact ⟨.tuple [.str "put"], .tup (SqT.of (m2 _ _ upd_same)) (.cons (.str _) .nil), by decide +kernel, by decide +kernel, rfl⟩
          · exact ⟨.list [], .lst (SqL.of (m3 _ _ upd_same)) .nil, by decide +kernel, by decide +kernel, rfl⟩
          · exact ⟨_, .bl true, by decide +kernel, by decide +kernel, rfl⟩
        have k9 := C.same
        refine ⟨(by show 1 ≤ sizeLine; decide), fun te hte => ?_⟩
        have s9 := same_new (o := .tup [.str "end"]) hte
        obtain ⟨oe, voe, she⟩ := ats_tup (K := K) (H := upd H6 te (.tup [.str "end"])) (t := te) (xs := (["end"] : List Str).map V.str) (at_strs (by unfold sOk; decide +kernel)) (by decide) upd_same
        refine ⟨_, rfl, .ref te, st, oe, d, rfl, voe, she, dp_mono (k9.trans s9) vd, sd, nk, fun f Ha sa hf hfl => ?_⟩
        refine ⟨_, rfl, (by show 2 ≤ sizeLine; decide), fun g hg => ?_⟩
        have sg := same_new (o := .lst [.str "kind", st]) hg
        refine ⟨f, g, [.str "kind", st], rfl, rfl, SqL.of (sg _ _ hfl), SqL.of upd_same, sure2 sv, _, rfl, iteF ?_⟩
        have k10 := k9.trans (s9.trans (sa.trans sg))
        refine ⟨_, rfl, .int 5, st, some (.int 5), d, rfl, .dat (.int 5) (by decide +kernel) (fun _ e => nomatch e), (fun ds e => by cases e), dp_mono k10 vd, sd, nk, fun f2 Hb sb hf2 hfl2 => ?_⟩
        refine ⟨_, rfl, (by show 2 ≤ sizeLine; decide), fun g2 hg2 => ?_⟩
        have sg2 := same_new (o := .lst [.str "kind", st]) hg2
        refine ⟨f2, g2, [.str "kind", st], rfl, rfl, SqL.of (sg2 _ _ hfl2), SqL.of upd_same, sure2 sv, _, rfl, iteF ?_⟩
        exact ⟨_, _, _, _, _, _, _, _, _, _, rfl, s1.trans (sG.trans (sG3.trans (k10.trans (sb.trans sg2))))⟩
    · rintro σ H1 ⟨v1, v2, v3, v4, v5, v6, v7, v8, v9, v10, rfl, s1⟩
      exact k H1
end
theorem all_mk {l : PySem.W.OpenLaw} {w : World} {K : PySem.W.Frag} {h : Heap} {mg : Str → Option Value} {fa f0 f1 f2 f3 f4 f5 f6 f7 f8 f9 f10 f11 f12 f13 f14 f15 f16 : Addr} {C_PartsError : Addr} {C_NoProgram : Addr} (X : K.In h) (G : h.Ns mainGlobals mg) (hfa : mg "law" = some (.ref fa))
    {od0 an0 : Option Addr} {sl0 : Array (Option Value)} {oc0 kV0 dc0 pm0 cd0 ct0 : Value}
    (a0 : PySem.W.findIn K (.ref C_NoProgram) "__init__" = some (some (.ref f0))) (l0 : K.lookup f0 = some ⟨oc0, od0, .func (PySem.W.fnOf "__init__" "NoProgram.__init__" (defArgs s_NoProgram_init) (defBody s_NoProgram_init) (defScope s_NoProgram_init) .none kV0 dc0 pm0 an0 cd0 ct0), sl0⟩) (c0 : PySem.W.codeIn K cd0 "NoProgram.__init__" = true) (k0 : PySem.W.keepIn K (.ref f0) = true)
    {od1 an1 : Option Addr} {sl1 : Array (Option Value)} {oc1 kV1 dc1 pm1 cd1 ct1 : Value}
    (a1 : PySem.W.nsIn K mainGlobals "is_name" = some (some (.ref f1))) (l1 : K.lookup f1 = some ⟨oc1, od1, .func (PySem.W.fnOf "is_name" "is_name" (defArgs s_is_name) (defBody s_is_name) (defScope s_is_name) .none kV1 dc1 pm1 an1 cd1 ct1), sl1⟩) (c1 : PySem.W.codeIn K cd1 "is_name" = true) (k1 : PySem.W.keepIn K (.ref f1) = true)
    {od2 an2 : Option Addr} {sl2 : Array (Option Value)} {oc2 kV2 dc2 pm2 cd2 ct2 : Value}
    (a2 : PySem.W.nsIn K mainGlobals "is_kind" = some (some (.ref f2))) (l2 : K.lookup f2 = some ⟨oc2, od2, .func (PySem.W.fnOf "is_kind" "is_kind" (defArgs s_is_kind) (defBody s_is_kind) (defScope s_is_kind) .none kV2 dc2 pm2 an2 cd2 ct2), sl2⟩) (c2 : PySem.W.codeIn K cd2 "is_kind" = true) (k2 : PySem.W.keepIn K (.ref f2) = true)
    {od3 an3 : Option Addr} {sl3 : Array (Option Value)} {oc3 kV3 dc3 pm3 cd3 ct3 : Value}
    (a3 : PySem.W.nsIn K mainGlobals "require_kind" = some (some (.ref f3))) (l3 : K.lookup f3 = some ⟨oc3, od3, .func (PySem.W.fnOf "require_kind" "require_kind" (defArgs s_require_kind) (defBody s_require_kind) (defScope s_require_kind) .none kV3 dc3 pm3 an3 cd3 ct3), sl3⟩) (c3 : PySem.W.codeIn K cd3 "require_kind" = true) (k3 : PySem.W.keepIn K (.ref f3) = true)
    {od4 an4 : Option Addr} {sl4 : Array (Option Value)} {oc4 kV4 dc4 pm4 cd4 ct4 : Value}
    (a4 : PySem.W.nsIn K mainGlobals "is_step" = some (some (.ref f4))) (l4 : K.lookup f4 = some ⟨oc4, od4, .func (PySem.W.fnOf "is_step" "is_step" (defArgs s_is_step) (defBody s_is_step) (defScope s_is_step) .none kV4 dc4 pm4 an4 cd4 ct4), sl4⟩) (c4 : PySem.W.codeIn K cd4 "is_step" = true) (k4 : PySem.W.keepIn K (.ref f4) = true)
    {od5 an5 : Option Addr} {sl5 : Array (Option Value)} {oc5 kV5 dc5 pm5 cd5 ct5 : Value}
    (a5 : PySem.W.nsIn K mainGlobals "_law_cell" = some (some (.ref f5))) (l5 : K.lookup f5 = some ⟨oc5, od5, .func (PySem.W.fnOf "_law_cell" "_law_cell" (defArgs s_law_cell) (defBody s_law_cell) (defScope s_law_cell) .none kV5 dc5 pm5 an5 cd5 ct5), sl5⟩) (c5 : PySem.W.codeIn K cd5 "_law_cell" = true) (k5 : PySem.W.keepIn K (.ref f5) = true)
    {od6 an6 : Option Addr} {sl6 : Array (Option Value)} {oc6 kV6 dc6 pm6 cd6 ct6 : Value}
    (a6 : PySem.W.nsIn K mainGlobals "_law_box" = some (some (.ref f6))) (l6 : K.lookup f6 = some ⟨oc6, od6, .func (PySem.W.fnOf "_law_box" "_law_box" (defArgs s_law_box) (defBody s_law_box) (defScope s_law_box) .none kV6 dc6 pm6 an6 cd6 ct6), sl6⟩) (c6 : PySem.W.codeIn K cd6 "_law_box" = true) (k6 : PySem.W.keepIn K (.ref f6) = true)
    {od7 an7 : Option Addr} {sl7 : Array (Option Value)} {oc7 kV7 dc7 pm7 cd7 ct7 : Value}
    (a7 : PySem.W.nsIn K mainGlobals "_law_take" = some (some (.ref f7))) (l7 : K.lookup f7 = some ⟨oc7, od7, .func (PySem.W.fnOf "_law_take" "_law_take" (defArgs s_law_take) (defBody s_law_take) (defScope s_law_take) .none kV7 dc7 pm7 an7 cd7 ct7), sl7⟩) (c7 : PySem.W.codeIn K cd7 "_law_take" = true) (k7 : PySem.W.keepIn K (.ref f7) = true)
    {od8 an8 : Option Addr} {sl8 : Array (Option Value)} {oc8 kV8 dc8 pm8 cd8 ct8 : Value}
    (a8 : PySem.W.nsIn K mainGlobals "_law_mixed" = some (some (.ref f8))) (l8 : K.lookup f8 = some ⟨oc8, od8, .func (PySem.W.fnOf "_law_mixed" "_law_mixed" (defArgs s_law_mixed) (defBody s_law_mixed) (defScope s_law_mixed) .none kV8 dc8 pm8 an8 cd8 ct8), sl8⟩) (c8 : PySem.W.codeIn K cd8 "_law_mixed" = true) (k8 : PySem.W.keepIn K (.ref f8) = true)
    {od9 an9 : Option Addr} {sl9 : Array (Option Value)} {oc9 kV9 dc9 pm9 cd9 ct9 : Value}
    (a9 : PySem.W.nsIn K mainGlobals "_law_names" = some (some (.ref f9))) (l9 : K.lookup f9 = some ⟨oc9, od9, .func (PySem.W.fnOf "_law_names" "_law_names" (defArgs s_law_names) (defBody s_law_names) (defScope s_law_names) .none kV9 dc9 pm9 an9 cd9 ct9), sl9⟩) (c9 : PySem.W.codeIn K cd9 "_law_names" = true) (k9 : PySem.W.keepIn K (.ref f9) = true)
    {od10 an10 : Option Addr} {sl10 : Array (Option Value)} {oc10 kV10 dc10 pm10 cd10 ct10 : Value}
    (a10 : PySem.W.nsIn K mainGlobals "_law_kinds" = some (some (.ref f10))) (l10 : K.lookup f10 = some ⟨oc10, od10, .func (PySem.W.fnOf "_law_kinds" "_law_kinds" (defArgs s_law_kinds) (defBody s_law_kinds) (defScope s_law_kinds) .none kV10 dc10 pm10 an10 cd10 ct10), sl10⟩) (c10 : PySem.W.codeIn K cd10 "_law_kinds" = true) (k10 : PySem.W.keepIn K (.ref f10) = true)
    {od11 an11 : Option Addr} {sl11 : Array (Option Value)} {oc11 kV11 dc11 pm11 cd11 ct11 : Value}
    (a11 : PySem.W.nsIn K mainGlobals "_law_is_name" = some (some (.ref f11))) (l11 : K.lookup f11 = some ⟨oc11, od11, .func (PySem.W.fnOf "_law_is_name" "_law_is_name" (defArgs s_law_is_name) (defBody s_law_is_name) (defScope s_law_is_name) .none kV11 dc11 pm11 an11 cd11 ct11), sl11⟩) (c11 : PySem.W.codeIn K cd11 "_law_is_name" = true) (k11 : PySem.W.keepIn K (.ref f11) = true)
    {od12 an12 : Option Addr} {sl12 : Array (Option Value)} {oc12 kV12 dc12 pm12 cd12 ct12 : Value}
    (a12 : PySem.W.nsIn K mainGlobals "_law_is_step" = some (some (.ref f12))) (l12 : K.lookup f12 = some ⟨oc12, od12, .func (PySem.W.fnOf "_law_is_step" "_law_is_step" (defArgs s_law_is_step) (defBody s_law_is_step) (defScope s_law_is_step) .none kV12 dc12 pm12 an12 cd12 ct12), sl12⟩) (c12 : PySem.W.codeIn K cd12 "_law_is_step" = true) (k12 : PySem.W.keepIn K (.ref f12) = true)
    {od13 an13 : Option Addr} {sl13 : Array (Option Value)} {oc13 kV13 dc13 pm13 cd13 ct13 : Value}
    (a13 : PySem.W.nsIn K mainGlobals "_law_drawn_step" = some (some (.ref f13))) (l13 : K.lookup f13 = some ⟨oc13, od13, .func (PySem.W.fnOf "_law_drawn_step" "_law_drawn_step" (defArgs s_law_drawn_step) (defBody s_law_drawn_step) (defScope s_law_drawn_step) .none kV13 dc13 pm13 an13 cd13 ct13), sl13⟩) (c13 : PySem.W.codeIn K cd13 "_law_drawn_step" = true) (k13 : PySem.W.keepIn K (.ref f13) = true)
    {od14 an14 : Option Addr} {sl14 : Array (Option Value)} {oc14 kV14 dc14 pm14 cd14 ct14 : Value}
    (a14 : PySem.W.nsIn K mainGlobals "_law_bent" = some (some (.ref f14))) (l14 : K.lookup f14 = some ⟨oc14, od14, .func (PySem.W.fnOf "_law_bent" "_law_bent" (defArgs s_law_bent) (defBody s_law_bent) (defScope s_law_bent) .none kV14 dc14 pm14 an14 cd14 ct14), sl14⟩) (c14 : PySem.W.codeIn K cd14 "_law_bent" = true) (k14 : PySem.W.keepIn K (.ref f14) = true)
    {od15 an15 : Option Addr} {sl15 : Array (Option Value)} {oc15 kV15 dc15 pm15 cd15 ct15 : Value}
    (a15 : PySem.W.nsIn K mainGlobals "_law_told" = some (some (.ref f15))) (l15 : K.lookup f15 = some ⟨oc15, od15, .func (PySem.W.fnOf "_law_told" "_law_told" (defArgs s_law_told) (defBody s_law_told) (defScope s_law_told) .none kV15 dc15 pm15 an15 cd15 ct15), sl15⟩) (c15 : PySem.W.codeIn K cd15 "_law_told" = true) (k15 : PySem.W.keepIn K (.ref f15) = true)
    {od16 an16 : Option Addr} {sl16 : Array (Option Value)} {oc16 kV16 dc16 pm16 cd16 ct16 : Value}
    (a16 : PySem.W.nsIn K mainGlobals "law" = some (some (.ref f16))) (l16 : K.lookup f16 = some ⟨oc16, od16, .func (PySem.W.fnOf "law" "law" (defArgs s_law) (defBody s_law) (defScope s_law) .none kV16 dc16 pm16 an16 cd16 ct16), sl16⟩) (c16 : PySem.W.codeIn K cd16 "law" = true) (k16 : PySem.W.keepIn K (.ref f16) = true)
    (g_PartsError : PySem.W.nsIn K mainGlobals "PartsError" = some (some (.ref C_PartsError)))
    (g_NoProgram : PySem.W.nsIn K mainGlobals "NoProgram" = some (some (.ref C_NoProgram)))
    {nm_NoProgram qn_NoProgram : Str} {N_NoProgram : Addr} {bs_NoProgram bm_NoProgram : List Value} {sn_NoProgram : List Str} {sub_NoProgram : List Value} {ab_NoProgram : Bool} {col_NoProgram : Option Bool} {dd_NoProgram : Option Addr} {m0_NoProgram m1_NoProgram m2_NoProgram m3_NoProgram m5_NoProgram : Option Value}
    (xL_NoProgram : K.lookup C_NoProgram = some (excClassObj nm_NoProgram qn_NoProgram C_NoProgram N_NoProgram bs_NoProgram bm_NoProgram true sn_NoProgram sub_NoProgram ab_NoProgram col_NoProgram dd_NoProgram m0_NoProgram m1_NoProgram m2_NoProgram m3_NoProgram m5_NoProgram "ValueError.__new__")) (rB_NoProgram : PySem.HandSPX.refsVE bm_NoProgram = true)
    (sa_NoProgram : PySem.W.findIn K (.ref C_NoProgram) "__setattr__" = some (some (.builtin "object.__setattr__"))) (ga_NoProgram : PySem.W.findIn K (.ref C_NoProgram) "__getattribute__" = some (some (.builtin "BaseException.__getattribute__"))) (gg_NoProgram : PySem.W.findIn K (.ref C_NoProgram) "__getattr__" = some none) (nb_NoProgram : PySem.W.findIn K (.ref C_NoProgram) "kind" = some none)
    (t1_NoProgram : PySem.W.typeIn K (.ref f0) = some (.type "function")) (kC_NoProgram : PySem.W.keepIn K (.ref C_NoProgram) = true) (eC_NoProgram : PySem.W.subIn K (.ref C_NoProgram) (.type "BaseException") = some true) (tC_NoProgram : PySem.W.typeIn K (.ref C_NoProgram) = some (.type "type")) (hC_NoProgram : PySem.W.hasDictIn K C_NoProgram = true)
    (e_NoProgram_NoProgram : PySem.W.exmOne K (.ref C_NoProgram) (.ref C_NoProgram) = some true)
    {A_KINDS : Addr} (w_KINDS : PySem.W.nsIn K mainGlobals "KINDS" = some (some (.ref A_KINDS)))
    {A_LOCKS : Addr} (w_LOCKS : PySem.W.nsIn K mainGlobals "LOCKS" = some (some (.ref A_LOCKS)))
    {es_LOCKS : Array DictEntry} {n_LOCKS : Nat} (la_LOCKS : K.lookup A_LOCKS = some ⟨.type "dict", none, .dict es_LOCKS n_LOCKS, #[]⟩) (lk_LOCKS : PySem.W.KeysLit w.params es_LOCKS.toList)
    {A_STEPS : Addr} (w_STEPS : PySem.W.nsIn K mainGlobals "STEPS" = some (some (.ref A_STEPS)))
    {es_STEPS : Array DictEntry} {n_STEPS : Nat} (la_STEPS : K.lookup A_STEPS = some ⟨.type "dict", none, .dict es_STEPS n_STEPS, #[]⟩) (lk_STEPS : PySem.W.KeysLit w.params es_STEPS.toList)
    (d_KINDS : datK K 4 (.ref A_KINDS) = some tb_KINDS)
    (d_LOCKS : tb_LOCKS.map (fun p => nsD K A_LOCKS p.1) = tb_LOCKS.map fun p => some p.2)
    (d_STEPS : tb_STEPS.map (fun p => nsD K A_STEPS p.1) = tb_STEPS.map fun p => some p.2)
    {t_LONGEST_NAME : Tok} (v_LONGEST_NAME : PySem.W.nsIn K mainGlobals "LONGEST_NAME" = some (some (.int 8 t_LONGEST_NAME)))
    (z_all : PySem.W.nsIn K mainGlobals "all" = some none)
    (z_isinstance : PySem.W.nsIn K mainGlobals "isinstance" = some none)
    (z_str : PySem.W.nsIn K mainGlobals "str" = some none)
    (z_len : PySem.W.nsIn K mainGlobals "len" = some none)
    (z_tuple : PySem.W.nsIn K mainGlobals "tuple" = some none)
    (z_max : PySem.W.nsIn K mainGlobals "max" = some none)
    (z_list : PySem.W.nsIn K mainGlobals "list" = some none)
    (z_range : PySem.W.nsIn K mainGlobals "range" = some none)
    (z_min : PySem.W.nsIn K mainGlobals "min" = some none)
    (z_int : PySem.W.nsIn K mainGlobals "int" = some none)
    (z_bool : PySem.W.nsIn K mainGlobals "bool" = some none)
    : ∃ fd : FuncData, (∀ (s : Shared) (v : Value), BindsTo s fd ⟨[v], []⟩ [("_law_script", v)]) ∧ ∀ base : Heap, K.In base → base.Ns mainGlobals mg → FnOk l.prog w K mg base CX0 6 fa fd ["_law_script"] (sp_law K) := by
  have e := hfa.symm.trans (PySem.W.mg_of X G a16)
  cases e
  let T : Txt K mg w := {
    f_NoProgram_init := f0, fd_NoProgram_init := _, F_NoProgram_init := fun_mk (st := s_NoProgram_init) l0 c0 k0, b_NoProgram_init := (fun_mk (st := s_NoProgram_init) l0 c0 k0).binds (ps := ["self", "kind"]) fun _ _ _ _ _ _ us hl => match us, hl with | [_, _], _ => rfl,
    f_is_name := f1, fd_is_name := _, F_is_name := fun_mk (st := s_is_name) l1 c1 k1, b_is_name := (fun_mk (st := s_is_name) l1 c1 k1).binds (ps := ["value"]) fun _ _ _ _ _ _ us hl => match us, hl with | [_], _ => rfl, m_is_name := PySem.W.mg_of X G a1,
    f_is_kind := f2, fd_is_kind := _, F_is_kind := fun_mk (st := s_is_kind) l2 c2 k2, b_is_kind := (fun_mk (st := s_is_kind) l2 c2 k2).binds (ps := ["value"]) fun _ _ _ _ _ _ us hl => match us, hl with | [_], _ => rfl, m_is_kind := PySem.W.mg_of X G a2,
    f_require_kind := f3, fd_require_kind := _, F_require_kind := fun_mk (st := s_require_kind) l3 c3 k3, b_require_kind := (fun_mk (st := s_require_kind) l3 c3 k3).binds (ps := ["value"]) fun _ _ _ _ _ _ us hl => match us, hl with | [_], _ => rfl, m_require_kind := PySem.W.mg_of X G a3,
    f_is_step := f4, fd_is_step := _, F_is_step := fun_mk (st := s_is_step) l4 c4 k4, b_is_step := (fun_mk (st := s_is_step) l4 c4 k4).binds (ps := ["value", "kind"]) fun _ _ _ _ _ _ us hl => match us, hl with | [_, _], _ => rfl, m_is_step := PySem.W.mg_of X G a4,
    f_law_cell := f5, fd_law_cell := _, F_law_cell := fun_mk (st := s_law_cell) l5 c5 k5, b_law_cell := (fun_mk (st := s_law_cell) l5 c5 k5).binds (ps := ["_law_script", "_law_k"]) fun _ _ _ _ _ _ us hl => match us, hl with | [_, _], _ => rfl, m_law_cell := PySem.W.mg_of X G a5,
    f_law_box := f6, fd_law_box := _, F_law_box := fun_mk (st := s_law_box) l6 c6 k6, b_law_box := (fun_mk (st := s_law_box) l6 c6 k6).binds (ps := ["_law_cell_here"]) fun _ _ _ _ _ _ us hl => match us, hl with | [_], _ => rfl, m_law_box := PySem.W.mg_of X G a6,
    f_law_take := f7, fd_law_take := _, F_law_take := fun_mk (st := s_law_take) l7 c7 k7, b_law_take := (fun_mk (st := s_law_take) l7 c7 k7).binds (ps := ["_law_box_here", "_law_many"]) fun _ _ _ _ _ _ us hl => match us, hl with | [_, _], _ => rfl, m_law_take := PySem.W.mg_of X G a7,
    f_law_mixed := f8, fd_law_mixed := _, F_law_mixed := fun_mk (st := s_law_mixed) l8 c8 k8, b_law_mixed := (fun_mk (st := s_law_mixed) l8 c8 k8).binds (ps := ["_law_box_here", "_law_some"]) fun _ _ _ _ _ _ us hl => match us, hl with | [_, _], _ => rfl, m_law_mixed := PySem.W.mg_of X G a8,
    f_law_names := f9, fd_law_names := _, F_law_names := fun_mk (st := s_law_names) l9 c9 k9, b_law_names := (fun_mk (st := s_law_names) l9 c9 k9).binds (ps := ["_law_box_here", "_law_many"]) fun _ _ _ _ _ _ us hl => match us, hl with | [_, _], _ => rfl, m_law_names := PySem.W.mg_of X G a9,
    f_law_kinds := f10, fd_law_kinds := _, F_law_kinds := fun_mk (st := s_law_kinds) l10 c10 k10, b_law_kinds := (fun_mk (st := s_law_kinds) l10 c10 k10).binds (ps := []) fun _ _ _ _ _ _ us hl => match us, hl with | [], _ => rfl, m_law_kinds := PySem.W.mg_of X G a10,
    f_law_is_name := f11, fd_law_is_name := _, F_law_is_name := fun_mk (st := s_law_is_name) l11 c11 k11, b_law_is_name := (fun_mk (st := s_law_is_name) l11 c11 k11).binds (ps := ["_law_thing"]) fun _ _ _ _ _ _ us hl => match us, hl with | [_], _ => rfl, m_law_is_name := PySem.W.mg_of X G a11,
    f_law_is_step := f12, fd_law_is_step := _, F_law_is_step := fun_mk (st := s_law_is_step) l12 c12 k12, b_law_is_step := (fun_mk (st := s_law_is_step) l12 c12 k12).binds (ps := ["_law_thing", "_law_sort"]) fun _ _ _ _ _ _ us hl => match us, hl with | [_, _], _ => rfl, m_law_is_step := PySem.W.mg_of X G a12,
    f_law_drawn_step := f13, fd_law_drawn_step := _, F_law_drawn_step := fun_mk (st := s_law_drawn_step) l13 c13 k13, b_law_drawn_step := (fun_mk (st := s_law_drawn_step) l13 c13 k13).binds (ps := ["_law_box_here", "_law_modes"]) fun _ _ _ _ _ _ us hl => match us, hl with | [_, _], _ => rfl, m_law_drawn_step := PySem.W.mg_of X G a13,
    f_law_bent := f14, fd_law_bent := _, F_law_bent := fun_mk (st := s_law_bent) l14 c14 k14, b_law_bent := (fun_mk (st := s_law_bent) l14 c14 k14).binds (ps := ["_law_box_here", "_law_step"]) fun _ _ _ _ _ _ us hl => match us, hl with | [_, _], _ => rfl, m_law_bent := PySem.W.mg_of X G a14,
    f_law_told := f15, fd_law_told := _, F_law_told := fun_mk (st := s_law_told) l15 c15 k15, b_law_told := (fun_mk (st := s_law_told) l15 c15 k15).binds (ps := ["_law_thing", "_law_sort"]) fun _ _ _ _ _ _ us hl => match us, hl with | [_, _], _ => rfl, m_law_told := PySem.W.mg_of X G a15,
    f_law := fa, fd_law := _, F_law := fun_mk (st := s_law) l16 c16 k16, b_law := (fun_mk (st := s_law) l16 c16 k16).binds (ps := ["_law_script"]) fun _ _ _ _ _ _ us hl => match us, hl with | [_], _ => rfl, m_law := PySem.W.mg_of X G a16,
    k_is_step_0_kind_value := ⟨fun us ws h1 h2 => by
      match us, ws, h1, h2 with
      | [], [_, _], _, _ => rfl, fun {vs us zs ws} h1 h2 r1 r2 => by
      match vs, us, zs, ws, h1, h2, r1, r2 with
      | [], [], [_, _], [_, _], _, _, .nil, .cons b0 (.cons b1 .nil) => exact .cons b1 (.cons b0 .nil)⟩,
    C_PartsError := C_PartsError, g_PartsError := PySem.W.mg_of X G g_PartsError,
    C_NoProgram := C_NoProgram, g_NoProgram := PySem.W.mg_of X G g_NoProgram,
    x_NoProgram := ⟨⟨_, _, _, _, _, _, _, _, _, _, _, _, _, _, _, xL_NoProgram, rB_NoProgram⟩, sa_NoProgram, eC_NoProgram, tC_NoProgram, kC_NoProgram⟩, y_NoProgram := ⟨ga_NoProgram, gg_NoProgram, eC_NoProgram, hC_NoProgram⟩, n_NoProgram := nb_NoProgram, i_NoProgram := a0, t_NoProgram := t1_NoProgram,
    e_NoProgram_NoProgram := e_NoProgram_NoProgram,
    A_KINDS := A_KINDS, c_KINDS := PySem.W.mg_of X G w_KINDS,
    A_LOCKS := A_LOCKS, c_LOCKS := PySem.W.mg_of X G w_LOCKS,
    l_LOCKS := ⟨_, _, la_LOCKS, lk_LOCKS⟩,
    A_STEPS := A_STEPS, c_STEPS := PySem.W.mg_of X G w_STEPS,
    l_STEPS := ⟨_, _, la_STEPS, lk_STEPS⟩,
    d_KINDS := d_KINDS,
    d_LOCKS := d_LOCKS,
    d_STEPS := d_STEPS,
    t_LONGEST_NAME := t_LONGEST_NAME, c_LONGEST_NAME := PySem.W.mg_of X G v_LONGEST_NAME,
    z_all := PySem.W.mg_none_of X G z_all,
    z_isinstance := PySem.W.mg_none_of X G z_isinstance,
    z_str := PySem.W.mg_none_of X G z_str,
    z_len := PySem.W.mg_none_of X G z_len,
    z_tuple := PySem.W.mg_none_of X G z_tuple,
    z_max := PySem.W.mg_none_of X G z_max,
    z_list := PySem.W.mg_none_of X G z_list,
    z_range := PySem.W.mg_none_of X G z_range,
    z_min := PySem.W.mg_none_of X G z_min,
    z_int := PySem.W.mg_none_of X G z_int,
    z_bool := PySem.W.mg_none_of X G z_bool }
  exact ⟨T.fd_law, fun s v => .of_eq rfl, fun base _ _ => ok_law T⟩
theorem walk {l : PySem.W.OpenLaw} {q : Program} {loose : List Str} {XP : (Str → Option Value) → Heap → Prop} {YP : World → Heap → Prop} {d : DefRec} {K : Params → PySem.W.Frag} (hn : l.most = some 63) (hdf : d.params.defaults = [])
    (hY : ∀ (w : World) (h : Heap), YP w h → (K w.params).In h)
    (F : ∀ (w : World) (mg : Str → Option Value) (fa : Addr) (h : Heap), (K w.params).In h → h.Ns mainGlobals mg → mg d.name = some (.ref fa) →
      ∃ fd : FuncData, (∀ (s : Shared) (u : Value), BindsTo s fd ⟨[u], []⟩ [("_law_script", u)]) ∧ ∀ base : Heap, (K w.params).In base → base.Ns mainGlobals mg → FnOk l.prog w (K w.params) mg base CX0 6 fa fd ["_law_script"] (sp_law (K w.params))) :
    PySem.W.WalkO q loose XP YP l.row.toRowW d [] (fun f vs => PySem.call f vs) :=
  L2.walk_of (n := 63) (k := 6) (x := "_law_script") (CX := fun _ => CX0) (sp := fun w => sp_law (K w.params)) hn (by decide) hdf ⟨rfl, by decide, by decide⟩ hY F (fun _ _ a ns hl _ hS => ⟨a, ns, rfl, hS, hl, fun _ => rfl⟩) fun _ _ _ _ _ z => z
end My
open PySem PySem.W PyProof.Rows
set_option maxRecDepth 100000 in
set_option maxHeartbeats 0 in
theorem PySem.Challenge.cw_hungparts_k21_steps_of_kinds_holds : PySem.Challenge.rw_hungparts_k21_steps_of_kinds.Holds := by
  w_on; o_law; k_head; (case hw => w_witness2)
  k_fill
  refine My.walk (l := PySem.Challenge.rw_hungparts_k21_steps_of_kinds) rfl rfl (fun w h Y => PySem.W.kIn_of Y) ?F
  case F =>
    intro w mg fa h KX G hmg
    refine' My.all_mk KX G hmg ?a0 ?l0 ?c0 ?k0 ?a1 ?l1 ?c1 ?k1 ?a2 ?l2 ?c2 ?k2 ?a3 ?l3 ?c3 ?k3 ?a4 ?l4 ?c4 ?k4 ?a5 ?l5 ?c5 ?k5 ?a6 ?l6 ?c6 ?k6 ?a7 ?l7 ?c7 ?k7 ?a8 ?l8 ?c8 ?k8 ?a9 ?l9 ?c9 ?k9 ?a10 ?l10 ?c10 ?k10 ?a11 ?l11 ?c11 ?k11 ?a12 ?l12 ?c12 ?k12 ?a13 ?l13 ?c13 ?k13 ?a14 ?l14 ?c14 ?k14 ?a15 ?l15 ?c15 ?k15 ?a16 ?l16 ?c16 ?k16 ?g_PartsError ?g_NoProgram ?xL_NoProgram ?rB_NoProgram ?sa_NoProgram ?ga_NoProgram ?gg_NoProgram ?nb_NoProgram ?t1_NoProgram ?kC_NoProgram ?eC_NoProgram ?tC_NoProgram ?hC_NoProgram ?e_NoProgram_NoProgram ?w_KINDS ?w_LOCKS ?la_LOCKS ?lk_LOCKS ?w_STEPS ?la_STEPS ?lk_STEPS ?d_KINDS ?d_LOCKS ?d_STEPS ?v_LONGEST_NAME ?z_all ?z_isinstance ?z_str ?z_len ?z_tuple ?z_max ?z_list ?z_range ?z_min ?z_int ?z_bool
    (case g_PartsError => k_is)
    (case g_NoProgram => k_is)
    (case w_KINDS => k_is)
    (case w_LOCKS => k_is)
    (case w_STEPS => k_is)
    (case la_LOCKS => k_is)
    (case la_STEPS => k_is)
    (case a0 => k_is)
    (case l0 => k_is)
    (case c0 => k_is)
    (case k0 => k_is)
    (case a1 => k_is)
    (case l1 => k_is)
    (case c1 => k_is)
    (case k1 => k_is)
    (case a2 => k_is)
    (case l2 => k_is)
    (case c2 => k_is)
    (case k2 => k_is)
    (case a3 => k_is)
    (case l3 => k_is)
    (case c3 => k_is)
    (case k3 => k_is)
    (case a4 => k_is)
    (case l4 => k_is)
    (case c4 => k_is)
    (case k4 => k_is)
    (case a5 => k_is)
    (case l5 => k_is)
    (case c5 => k_is)
    (case k5 => k_is)
    (case a6 => k_is)
    (case l6 => k_is)
    (case c6 => k_is)
    (case k6 => k_is)
    (case a7 => k_is)
    (case l7 => k_is)
    (case c7 => k_is)
    (case k7 => k_is)
    (case a8 => k_is)
    (case l8 => k_is)
    (case c8 => k_is)
    (case k8 => k_is)
    (case a9 => k_is)
    (case l9 => k_is)
    (case c9 => k_is)
    (case k9 => k_is)
    (case a10 => k_is)
    (case l10 => k_is)
    (case c10 => k_is)
    (case k10 => k_is)
    (case a11 => k_is)
    (case l11 => k_is)
    (case c11 => k_is)
    (case k11 => k_is)
    (case a12 => k_is)
    (case l12 => k_is)
    (case c12 => k_is)
    (case k12 => k_is)
    (case a13 => k_is)
    (case l13 => k_is)
    (case c13 => k_is)
    (case k13 => k_is)
    (case a14 => k_is)
    (case l14 => k_is)
    (case c14 => k_is)
    (case k14 => k_is)
    (case a15 => k_is)
    (case l15 => k_is)
    (case c15 => k_is)
    (case k15 => k_is)
    (case a16 => k_is)
    (case l16 => k_is)
    (case c16 => k_is)
    (case k16 => k_is)
    (case xL_NoProgram => k_is)
    (case rB_NoProgram => decide +kernel)
    (case sa_NoProgram => k_is)
    (case ga_NoProgram => k_is)
    (case gg_NoProgram => k_is)
    (case nb_NoProgram => k_is)
    (case t1_NoProgram => k_is)
    (case kC_NoProgram => k_is)
    (case eC_NoProgram => k_is)
    (case tC_NoProgram => k_is)
    (case hC_NoProgram => k_is)
    (case e_NoProgram_NoProgram => first | rfl | k_is)
    (case lk_LOCKS => k_keys)
    (case lk_STEPS => k_keys)
    (case d_KINDS => kernel_rfl)
    (case d_LOCKS => kernel_rfl)
    (case d_STEPS => kernel_rfl)
    (case v_LONGEST_NAME => k_is)
    (case z_all => k_is)
    (case z_isinstance => k_is)
    (case z_str => k_is)
    (case z_len => k_is)
    (case z_tuple => k_is)
    (case z_max => k_is)
    (case z_list => k_is)
    (case z_range => k_is)
    (case z_min => k_is)
    (case z_int => k_is)
    (case z_bool => k_is)
#print axioms PySem.Challenge.cw_hungparts_k21_steps_of_kinds_holds

