import PyProof.Rows.All
import Wide.All
import OpenK.AllK
import Wide.FinOn
import HandS.ForMost
import HandS.IsInst
import HandS.Walk
import HandS.Codes
import PySem.Challenge.RW_hungparts_k01_kinds_of_values
set_option Elab.async false
set_option linter.all false
set_option maxRecDepth 100000
set_option maxHeartbeats 4000000

namespace My
open PySem L2
def top (i : Nat) : Stmt := PySem.Challenge.pw_hungparts_k01_kinds_of_values.main.body.getD i (.Pass ⟨0, 0, 0, 0⟩)
abbrev s_is_integer : Stmt := top 2
theorem sc_is_integer : FnScope ["value"] ["value"] (defScope s_is_integer) := ⟨rfl, rfl, rfl, by decide +kernel, rfl, by decide +kernel, by decide +kernel⟩
abbrev s_is_name : Stmt := top 3
theorem sc_is_name : FnScope ["value", "sign"] ["value"] (defScope s_is_name) := ⟨rfl, rfl, rfl, by decide +kernel, rfl, by decide +kernel, by decide +kernel⟩
abbrev s_is_span : Stmt := top 4
theorem sc_is_span : FnScope ["value", "low", "high"] ["value"] (defScope s_is_span) := ⟨rfl, rfl, rfl, by decide +kernel, rfl, by decide +kernel, by decide +kernel⟩
abbrev s_is_limit : Stmt := top 5
theorem sc_is_limit : FnScope ["value"] ["value"] (defScope s_is_limit) := ⟨rfl, rfl, rfl, by decide +kernel, rfl, by decide +kernel, by decide +kernel⟩
abbrev s_law_cell : Stmt := top 7
theorem sc_law_cell : FnScope ["_law_script", "_law_k"] ["_law_script", "_law_k"] (defScope s_law_cell) := ⟨rfl, rfl, rfl, by decide +kernel, rfl, by decide +kernel, by decide +kernel⟩
abbrev s_law_box : Stmt := top 8
theorem sc_law_box : FnScope ["_law_cell_here"] ["_law_cell_here"] (defScope s_law_box) := ⟨rfl, rfl, rfl, by decide +kernel, rfl, by decide +kernel, by decide +kernel⟩
abbrev s_law_take : Stmt := top 9
theorem sc_law_take : FnScope ["_law_box_here", "_law_many", "_law_digit", "_law_number"] ["_law_box_here", "_law_many"] (defScope s_law_take) := ⟨rfl, rfl, rfl, by decide +kernel, rfl, by decide +kernel, by decide +kernel⟩
abbrev s_law_is_integer : Stmt := top 10
theorem sc_law_is_integer : FnScope ["_law_value_here"] ["_law_value_here"] (defScope s_law_is_integer) := ⟨rfl, rfl, rfl, by decide +kernel, rfl, by decide +kernel, by decide +kernel⟩
abbrev s_law_is_name : Stmt := top 11
theorem sc_law_is_name : FnScope ["_law_value_here", "_law_sign"] ["_law_value_here"] (defScope s_law_is_name) := ⟨rfl, rfl, rfl, by decide +kernel, rfl, by decide +kernel, by decide +kernel⟩
abbrev s_law_is_span : Stmt := top 12
theorem sc_law_is_span : FnScope ["_law_value_here", "_law_limit_here"] ["_law_value_here"] (defScope s_law_is_span) := ⟨rfl, rfl, rfl, by decide +kernel, rfl, by decide +kernel, by decide +kernel⟩
abbrev s_law_word : Stmt := top 13
theorem sc_law_word : FnScope ["_law_box_here", "_law_word_here", "_law_at", "_law_k"] ["_law_box_here"] (defScope s_law_word) := ⟨rfl, rfl, rfl, by decide +kernel, rfl, by decide +kernel, by decide +kernel⟩
abbrev s_law_limit : Stmt := top 14
theorem sc_law_limit : FnScope ["_law_box_here", "_law_low"] ["_law_box_here"] (defScope s_law_limit) := ⟨rfl, rfl, rfl, by decide +kernel, rfl, by decide +kernel, by decide +kernel⟩
abbrev s_law_value : Stmt := top 15
theorem sc_law_value : FnScope ["_law_box_here", "_law_way"] ["_law_box_here"] (defScope s_law_value) := ⟨rfl, rfl, rfl, by decide +kernel, rfl, by decide +kernel, by decide +kernel⟩
abbrev s_law : Stmt := top 16
theorem sc_law : FnScope ["_law_script", "_law_k", "_law_box_here", "_law_value_here", "_law_told", "_law_due", "_law_one"] ["_law_script"] (defScope s_law) := ⟨rfl, rfl, rfl, by decide +kernel, rfl, by decide +kernel, by decide +kernel⟩

/-- the drawing box at p: three ints, drawn n times at most -/
def BoxAt (H : Hp) (p : Addr) (n : Nat) : Prop := ∃ d s c : Int, H p = some (.lst [.int d, .int s, .int c]) ∧ 0 ≤ d ∧ 0 ≤ s ∧ s < 2147483629 ∧ 0 ≤ c ∧ c ≤ n
/-- H0: all that is known beside the box -/
structure BoxIn (H0 H : Hp) (p : Addr) (n : Nat) : Prop where
  same : Same H0 H
  free : H0 p = none
  box : BoxAt H p n
theorem BoxAt.mono {H : Hp} {p : Addr} {n m : Nat} (b : BoxAt H p n) (h : n ≤ m) : BoxAt H p m := by
  obtain ⟨d, s, c, h1, h2, h3, h4, h5, h6⟩ := b
  exact ⟨d, s, c, h1, h2, h3, h4, h5, by omega⟩
theorem BoxIn.mono {H0 H : Hp} {p : Addr} {n m : Nat} (b : BoxIn H0 H p n) (h : n ≤ m) : BoxIn H0 H p m := ⟨b.same, b.free, b.box.mono h⟩
/-- a pure step behind it -/
theorem BoxIn.keep {H0 H H' : Hp} {p : Addr} {n : Nat} (b : BoxIn H0 H p n) (s : Same H H') : BoxIn H0 H' p n := by
  obtain ⟨d, s', c, h1, h⟩ := b.box
  exact ⟨b.same.trans s, b.free, d, s', c, s _ _ h1, h⟩
/-- a new object becomes known -/
theorem BoxIn.new {H0 H : Hp} {p q : Addr} {n : Nat} {o : HO} (b : BoxIn H0 H p n) (hq : H q = none) : BoxIn (upd H0 q o) (upd H q o) p n ∧ Same H0 (upd H0 q o) := by
  obtain ⟨d, s', c, h1, h⟩ := b.box
  have npq : p ≠ q := ne_of_none h1 hq
  refine ⟨⟨fun x u e => ?_, by rw [upd_ne npq]; exact b.free, d, s', c, by rw [upd_ne npq]; exact h1, h⟩, fun x u e => ?_⟩
  · by_cases hx : x = q
    · subst hx
      rw [upd_same] at e ⊢
      exact e
    · rw [upd_ne hx] at e ⊢
      exact b.same _ _ e
  · rw [upd_ne (ne_of_none e (b.same.free hq))]
    exact e
/-- all that is tracked now, the box aside, is known -/
def but (H : Hp) (p : Addr) : Hp := fun q => if q = p then none else H q
theorem but_same {H : Hp} {p : Addr} : but H p p = none := by unfold but; rw [if_pos rfl]
theorem but_ne {H : Hp} {p q : Addr} (h : q ≠ p) : but H p q = H q := by unfold but; rw [if_neg h]
theorem BoxIn.all {H0 H : Hp} {p : Addr} {n : Nat} (b : BoxIn H0 H p n) : BoxIn (but H p) H p n ∧ Same H0 (but H p) := by
  refine ⟨⟨fun x u e => ?_, but_same, b.box⟩, fun x u e => ?_⟩
  · by_cases hx : x = p
    · subst hx
      rw [but_same] at e
      cases e
    · rw [but_ne hx] at e
      exact e
  · have hx : x ≠ p := fun q => by
      rw [q, b.free] at e
      cases e
    rw [but_ne hx]
    exact b.same _ _ e

def sp_law_cell (K : PySem.W.Frag) : Sp := fun vs H Q _ => ∃ (a : Addr) (ns : List Int) (k : Int), vs = [.ref a, .int k] ∧ SqL K H a (ns.map V.int) ∧ 0 ≤ k ∧ ∀ z, Q (.int z) H
def sp_law_box : Sp := fun vs H Q _ => ∃ z : Int, vs = [.int z] ∧ ∀ p o, H p = none → BoxAt (upd H p o) p 0 → Q (.ref p) (upd H p o)
def sp_law_take : Sp := fun vs H Q _ => ∃ (H0 : Hp) (p : Addr) (n : Nat) (m : Int), vs = [.ref p, .int m] ∧ BoxIn H0 H p n ∧ n < 1000000 ∧ 0 < m ∧ m < 1000000 ∧
  ∀ (z : Int) (H' : Hp), 0 ≤ z → z < m → BoxIn H0 H' p (n + 1) → Q (.int z) H'
/-- what the law's promise is: a list of at most 63 ints is handed in, True comes out -/
def sp_law (K : PySem.W.Frag) : Sp := fun vs H Q _ => ∃ (a : Addr) (ns : List Int), vs = [.ref a] ∧ SqL K H a (ns.map V.int) ∧ ns.length ≤ 63 ∧ ∀ H', Q (.bl true) H'
/-! ### values as data -/
theorem same_t {K : PySem.W.Frag} {H H' : Hp} {a : Addr} {xs : List V} (e : Same H H') (h : SqT K H a xs) : SqT K H' a xs := by
  rcases h with (h | ⟨o, h⟩) | h
  · exact .inl (.inl (e _ _ h))
  · exact .inl (.inr ⟨o, e _ _ h⟩)
  · exact .inr h
mutual
theorem dp_mono {K : PySem.W.Frag} {H H' : Hp} (e : Same H H') : ∀ {v : V} {d : PyData}, Dp K H v d → Dp K H' v d
  | _, _, .non => .non
  | _, _, .bl b => .bl b
  | _, _, .int i => .int i
  | _, _, .str x => .str x
  | _, _, .lst h a => .lst (e.seq h) (dpAll_mono e a)
  | _, _, .tup h a => .tup (same_t e h) (dpAll_mono e a)
theorem dpAll_mono {K : PySem.W.Frag} {H H' : Hp} (e : Same H H') : ∀ {vs : List V} {ds : List PyData}, DpAll K H vs ds → DpAll K H' vs ds
  | _, _, .nil => .nil
  | _, _, .cons a b => .cons (dp_mono e a) (dpAll_mono e b)
end
theorem dpAll_get {K : PySem.W.Frag} {H : Hp} : ∀ {vs : List V} {ds : List PyData} {i : Nat} {v : V}, DpAll K H vs ds → vs[i]? = some v → ∃ d, ds[i]? = some d ∧ Dp K H v d
  | _, _, 0, _, .cons a _, h => ⟨_, rfl, by cases h; exact a⟩
  | _, _, i + 1, _, .cons _ b, h => dpAll_get (i := i) b h
theorem dpAll_len {K : PySem.W.Frag} {H : Hp} : ∀ {vs : List V} {ds : List PyData}, DpAll K H vs ds → vs.length = ds.length
  | _, _, .nil => rfl
  | _, _, .cons _ b => congrArg (· + 1) (dpAll_len b)
theorem dpAll_strs {K : PySem.W.Frag} {H : Hp} : ∀ ss : List Str, DpAll K H (ss.map V.str) (ss.map PyData.str)
  | [] => .nil
  | s :: r => .cons (.str s) (dpAll_strs r)
theorem dpAll_bls {K : PySem.W.Frag} {H : Hp} : ∀ bs : List Bool, DpAll K H (bs.map V.bl) (bs.map PyData.bool)
  | [] => .nil
  | b :: r => .cons (.bl b) (dpAll_bls r)
theorem eqv_nil (ds : List PyData) : PyData.eqv (.list ds) (.list []) = ds.isEmpty := by
  cases ds with
  | nil => simp [PyData.eqv, PyData.eqvAll]
  | cons d r => simp [PyData.eqv, PyData.eqvAll]
theorem shaped_nil : SeqAt.shaped (.list []) = true := by decide +kernel
theorem canAll_mem {ds : List PyData} : PyData.canLayAll0 ds = true ↔ ∀ d ∈ ds, d.canLay0 = true := by
  induction ds with
  | nil => simp [PyData.canLayAll0]
  | cons d r ih => simp [PyData.canLayAll0, ih]
theorem depthAll_le {ds : List PyData} {n : Nat} (h : ∀ d ∈ ds, d.depth ≤ n) : PyData.depthAll ds ≤ n := by
  induction ds with
  | nil => simp [PyData.depthAll]
  | cons d r ih =>
    have h1 := h d (List.mem_cons_self)
    have h2 := ih fun x hx => h x (List.mem_cons_of_mem _ hx)
    simp only [PyData.depthAll]
    omega
theorem depthAll_mem {ds : List PyData} {d : PyData} (h : d ∈ ds) : d.depth ≤ PyData.depthAll ds := by
  induction ds with
  | nil => cases h
  | cons e r ih =>
    simp only [PyData.depthAll]
    rcases List.mem_cons.mp h with rfl | h
    · omega
    · have := ih h
      omega
theorem shaped_iff {d : PyData} : SeqAt.shaped d = true ↔ d.canLay0 = true ∧ d.depth ≤ 64 := by
  unfold SeqAt.shaped
  rw [Bool.and_eq_true, decide_eq_true_iff]
/-- a list of data that are d deep at most -/
theorem shaped_list {ds : List PyData} {n : Nat} (hn : n < 64) (h : ∀ d ∈ ds, d.canLay0 = true ∧ d.depth ≤ n) : SeqAt.shaped (.list ds) = true := by
  refine shaped_iff.mpr ⟨?_, ?_⟩
  · simp only [PyData.canLay0]
    exact canAll_mem.mpr fun d hd => (h d hd).1
  · have := depthAll_le fun d hd => (h d hd).2
    simp only [PyData.depth]
    omega
theorem shaped_of_tuple {ds : List PyData} (h : SeqAt.shaped (.tuple ds) = true) {d : PyData} (hd : d ∈ ds) : d.canLay0 = true ∧ d.depth ≤ 63 := by
  obtain ⟨h1, h2⟩ := shaped_iff.mp h
  simp only [PyData.canLay0] at h1
  simp only [PyData.depth] at h2
  have := depthAll_mem hd
  exact ⟨canAll_mem.mp h1 d hd, by omega⟩
/-- a value and what it is: data of any depth, or a dict (none) -/
inductive VD (K : PySem.W.Frag) (H : Hp) : V → Option PyData → Prop where
  | dat {v : V} {d : PyData} : Dp K H v d → SeqAt.shaped d = true → (∀ s, d = .str s → s.length ≤ 1000) → VD K H v (some d)
  | dic {a : Addr} {kvs : List (Key × V)} : H a = some (.dK kvs) → VD K H (.ref a) none
theorem VD.mono {K : PySem.W.Frag} {H H' : Hp} (e : Same H H') {v : V} {o : Option PyData} (h : VD K H v o) : VD K H' v o := by
  cases h with
  | dat a b c => exact .dat (dp_mono e a) b c
  | dic a => exact .dic (e _ _ a)
def tyD : PyData → String
  | .none => "NoneType" | .bool _ => "bool" | .int _ => "int" | .str _ => "str" | .list _ => "list" | .tuple _ => "tuple" | .dict _ => "dict"
def tyO : Option PyData → String
  | none => "dict"
  | some d => tyD d
theorem dp_ty {K : PySem.W.Frag} {H : Hp} {v : V} {d : PyData} (h : Dp K H v d) : TyX K H v (.type (tyD d)) := by
  cases h with
  | non => exact .base .non
  | bl b => exact .base (.bl b)
  | int i => exact .base (.int i)
  | str x => exact .base (.str x)
  | lst h _ =>
    rcases h with (h | ⟨o, h⟩) | ⟨o, its, n, h, c, _⟩
    · exact .base (.lst h)
    · exact .base (.frz h)
    · exact .kList h c
  | tup h _ =>
    rcases h with (h | ⟨o, h⟩) | ⟨o, its, n, h, c, _⟩
    · exact .base (.tup h)
    · exact .fTuple h
    · exact .kTuple h c
theorem VD.ty {K : PySem.W.Frag} {H : Hp} {v : V} {o : Option PyData} (h : VD K H v o) : TyX K H v (.type (tyO o)) := by
  cases h with
  | dat a _ _ => exact dp_ty a
  | dic a => exact .base (.dK a)
def isT (T : String) (o : Option PyData) : Bool := tyO o == T || (T == "int" && tyO o == "bool")
theorem tyO_mem (o : Option PyData) : tyO o = "NoneType" ∨ tyO o = "bool" ∨ tyO o = "int" ∨ tyO o = "str" ∨ tyO o = "list" ∨ tyO o = "tuple" ∨ tyO o = "dict" := by
  rcases o with _ | d
  · simp [tyO]
  · cases d <;> simp [tyO, tyD]
theorem kit_o {K : PySem.W.Frag} (o : Option PyData) {T : String} (hT : T = "int" ∨ T = "bool" ∨ T = "str" ∨ T = "tuple") : PySem.W.kitOne K (.type (tyO o)) (.type T) = some (isT T o) := by
  have h := tyO_mem o
  unfold isT
  generalize tyO o = nm at h ⊢
  rcases hT with rfl | rfl | rfl | rfl
  all_goals
    rcases h with rfl | rfl | rfl | rfl | rfl | rfl | rfl
    all_goals exact kit_ty (by decide +kernel)
def nonO : Option PyData → Bool
  | some .none => true
  | _ => false
theorem vd_non {K : PySem.W.Frag} {H : Hp} {v : V} {o : Option PyData} (h : VD K H v o) : decide (v = .non) = nonO o := by
  cases h with
  | dat a _ _ => cases a <;> rfl
  | dic a => rfl
theorem iteFe {c : Bool} {A B : Prop} (h : c = false) (q : B) : if c = true then A else B := by
  subst h
  exact iteF q
theorem iteTe {c : Bool} {A B : Prop} (h : c = true) (q : A) : if c = true then A else B := by
  subst h
  exact iteT q
theorem tyes {te : TE} {σ : L2.St} {H : Hp} {R : V → Hp → Prop} {S : Hp → Prop} (h : te σ H R) : tYes σ H (fun b H3 => if b = true then te σ H3 R else S H3) := by
  show (if true = true then te σ H R else S H)
  exact iteT h
/-! ### comprehensions that change nothing: acc i is what is made behind i turns -/
theorem lc_acc {J : It} {n : Nat} {G : Hp → Prop} {item : Nat → V → Prop} {g : TG} {tt : TT} {te : TE} {vs : List Nat} {σ : L2.St} {H1 : Hp} {D : Addr} {Qd : Hp → Prop} (w : Walk J n G (fun i H x H' => H' = H ∧ item i x)) (hD : H1 D = none) (hG : ∀ H, Same H1 H → G H) (acc : Nat → List V) (h0 : acc 0 = []) (hz : ∀ i, i < n → (acc i).length < sizeLine)
    (hs : ∀ (i : Nat) (x : V) (H : Hp), i < n → item i x → Same H1 H → ∀ (R : V → Hp → Prop) (S : Hp → Prop), (∀ y H4, acc (i + 1) = acc i ++ [y] → Same H H4 → R y H4) → (∀ H3, acc (i + 1) = acc i → Same H H3 → S H3) →
      g x (wipe σ vs) H fun σ2 H2 => wipe σ2 vs = wipe σ vs ∧ tt σ2 H2 fun b H3 => if b = true then te σ2 H3 R else S H3)
    (hd : ∀ H, Same H1 H → H D = some (.lst (acc n)) → Qd H) : ∃ W : Nat → Nat → Hp → Prop, (∃ m, W 0 m (upd H1 D (.lst []))) ∧ ∀ i m H, W i m H →
      (J.stop i H ∧ Qd H) ∨ (J.go i H ∧ ∃ Nx : Hp → Prop, (∀ H', Nx H' → ∃ m', m' < m ∧ W (i + 1) m' H') ∧ ∀ x H', J.yld i H x H' → g x (wipe σ vs) H' fun σ2 H2 => wipe σ2 vs = wipe σ vs ∧ tt σ2 H2 fun b H3 =>
        if b = true then te σ2 H3 fun y H4 => ∃ acc, H4 D = some (.lst acc) ∧ acc.length < sizeLine ∧ Nx (upd H4 D (.lst (acc ++ [y]))) else Nx H3) := by
  refine lc_it w (fun i H => Same H1 H ∧ H D = some (.lst (acc i))) ⟨fun b o e => ?_, ?_⟩ (fun i H _ p => hG H p.1) ?_ (fun H p => hd H p.1 p.2)
  · rw [upd_ne (ne_of_none e hD)]
    exact e
  · rw [upd_same, h0]
  · rintro i x H H' hi ⟨s1, hl⟩ ⟨rfl, hx⟩
    refine hs i x _ hi hx s1 _ _ (fun y H4 e s2 => ⟨acc i, s2 _ _ hl, hz i hi, ⟨fun b o eb => ?_, by rw [upd_same, e]⟩⟩) (fun H3 e s2 => ⟨s1.trans s2, by rw [e]; exact s2 _ _ hl⟩)
    rw [upd_ne (ne_of_none eb hD)]
    exact s2 _ _ (s1 _ _ eb)
/-! ### texts and their bounds -/
theorem same_new {H : Hp} {q : Addr} {o : HO} (h : H q = none) : Same H (upd H q o) := fun b u e => by
  rw [upd_ne (ne_of_none e h)]
  exact e
/-- at most n signs, all of them signs -/
def sOk (n : Nat) (s : Str) : Prop := s.length ≤ n ∧ PyData.strOk s = true
theorem strOk_iff {s : Str} : PyData.strOk s = true ↔ ∀ c ∈ s.cps.toList, c < 0x110000 := by
  unfold PyData.strOk
  rw [Array.all_eq_true']
  constructor
  · intro h c hc
    exact of_decide_eq_true (h c (by simpa using hc))
  · intro h c hc
    exact decide_eq_true (h c (by simpa using hc))
theorem sOk.mono {n m : Nat} {s : Str} (h : sOk n s) (e : n ≤ m) : sOk m s := ⟨Nat.le_trans h.1 e, h.2⟩
theorem sOk.app {n m : Nat} {a b : Str} (h : sOk n a) (k : sOk m b) : sOk (n + m) (a ++ b) := by
  refine ⟨?_, strOk_iff.mpr fun c hc => ?_⟩
  · rw [Str.length_append]
    exact Nat.add_le_add h.1 k.1
  · rw [Str.cps_append, Array.toList_append] at hc
    rcases List.mem_append.mp hc with q | q
    · exact strOk_iff.mp h.2 c q
    · exact strOk_iff.mp k.2 c q
theorem sOk.cut {n : Nat} {a : Str} (h : sOk n a) (lo hi : Option Int) : sOk n (cutS a lo hi) := by
  refine ⟨Nat.le_trans (cutS_length _ _ _) h.1, strOk_iff.mpr fun c hc => ?_⟩
  unfold cutS at hc
  have hc' : c ∈ a.cps.toList := List.mem_of_mem_drop (List.mem_of_mem_take (by simpa using hc))
  exact strOk_iff.mp h.2 c hc'
theorem joinL_nil : ∀ ps : List (List Nat), TL.joinL [] ps = ps.flatten
  | [] => rfl
  | [p] => by simp [TL.joinL]
  | p :: q :: r => by
    have ih := joinL_nil (q :: r)
    simp only [TL.joinL, ih]
    simp
theorem flat_len : ∀ (ys : List Str) (n : Nat), (∀ y ∈ ys, y.length ≤ n) → ((ys.map TL.tl).flatten).length ≤ ys.length * n
  | [], _, _ => by simp
  | y :: r, n, h => by
    have ih := flat_len r n fun z hz => h z (List.mem_cons_of_mem _ hz)
    have h1 : y.length ≤ n := h y List.mem_cons_self
    have h2 : (TL.tl y).length = y.length := by simp [TL.tl, Str.length]
    simp only [List.map_cons, List.flatten_cons, List.length_append, List.length_cons, Nat.add_mul, Nat.one_mul]
    omega
theorem join_ok {ys : List Str} {n : Nat} (h : ∀ y ∈ ys, sOk n y) : sOk (ys.length * n) (Txt.join Str.empty ys) := by
  have e : TL.tl (Txt.join Str.empty ys) = (ys.map TL.tl).flatten := by
    rw [TL.join_eq, TL.tl_join]
    exact joinL_nil _
  refine ⟨?_, strOk_iff.mpr fun c hc => ?_⟩
  · have h1 : (Txt.join Str.empty ys).length = (TL.tl (Txt.join Str.empty ys)).length := by simp [TL.tl, Str.length]
    rw [h1, e]
    exact flat_len ys n fun y hy => (h y hy).1
  · have hc' : c ∈ TL.tl (Txt.join Str.empty ys) := hc
    rw [e] at hc'
    obtain ⟨l, hl, hcl⟩ := List.mem_flatten.mp hc'
    obtain ⟨y, hy, rfl⟩ := List.mem_map.mp hl
    exact strOk_iff.mp (h y hy).2 c hcl
theorem sum_le : ∀ (ys : List Str) (n : Nat), (∀ y ∈ ys, y.length ≤ n) → (ys.map (·.length)).sum ≤ ys.length * n
  | [], _, _ => by simp
  | y :: r, n, h => by
    have ih := sum_le r n fun z hz => h z (List.mem_cons_of_mem _ hz)
    have h1 : y.length ≤ n := h y List.mem_cons_self
    simp only [List.map_cons, List.sum_cons, List.length_cons, Nat.add_mul, Nat.one_mul]
    omega
/-- an item at an open place within -/
theorem atI_in {α : Type} {xs : List α} {z : Int} (h0 : 0 ≤ z) (h1 : z < xs.length) : ∃ v, atI xs z = some v ∧ v ∈ xs := by
  obtain ⟨j, rfl⟩ := Int.eq_ofNat_of_zero_le h0
  have hj : j < xs.length := by omega
  exact ⟨xs[j], atI_nat (List.getElem?_eq_getElem hj), List.getElem_mem hj⟩
theorem op_mul_str {X : Cx} : OpR X (binaryOp .Mult) (fun x y H Q => ∃ z n, x = .str z ∧ y = .int n ∧ MulOk z n ∧ Q (.str (Txt.mul z n)) H) := by
  intro pins s σ H x y v u Q I rx ry h
  obtain ⟨z, n, rfl, rfl, hz, q⟩ := h
  obtain ⟨t, rfl⟩ := rx
  obtain ⟨t', rfl⟩ := ry
  exact SB.mul hz fun t' tk => ⟨.str (Txt.mul z n), H, I.tok _, ⟨_, rfl⟩, q⟩
theorem BoxIn.low {H0 H1 H : Hp} {p : Addr} {n : Nat} (b : BoxIn H1 H p n) (s : Same H0 H1) : BoxIn H0 H p n := ⟨s.trans b.same, s.free b.free, b.box⟩
theorem BoxIn.mut {H0 H : Hp} {p D : Addr} {n : Nat} {o : HO} (b : BoxIn H0 H p n) (h1 : D ≠ p) (h2 : H0 D = none) : BoxIn H0 (upd H D o) p n := by
  obtain ⟨d, s', c, h, hh⟩ := b.box
  refine ⟨fun x u e => ?_, b.free, d, s', c, by rw [upd_ne h1.symm]; exact h, hh⟩
  rw [upd_ne (ne_of_none e h2)]
  exact b.same _ _ e
/-- what a def draws: Good of the value, with what is known then -/
def sp_draw (c : Nat) (Good : Hp → V → Prop) : Sp := fun vs H Q _ => ∃ (H0 : Hp) (p : Addr) (n : Nat), vs = [.ref p] ∧ BoxIn H0 H p n ∧ n + c < 1000000 ∧ ∀ (H1 H' : Hp) (v : V), Same H0 H1 → BoxIn H1 H' p (n + c) → Good H1 v → Q v H'
/-- what the top has written -/
structure Txt (K : PySem.W.Frag) (mg : Str → Option Value) where
  f_is_integer : Addr
  fd_is_integer : FuncData
  F_is_integer : Fun K "is_integer" "is_integer" s_is_integer f_is_integer fd_is_integer
  b_is_integer : Binds K fd_is_integer ["value"] []
  m_is_integer : mg "is_integer" = some (.ref f_is_integer)
  f_is_name : Addr
  fd_is_name : FuncData
  F_is_name : Fun K "is_name" "is_name" s_is_name f_is_name fd_is_name
  b_is_name : Binds K fd_is_name ["value"] []
  m_is_name : mg "is_name" = some (.ref f_is_name)
  f_is_span : Addr
  fd_is_span : FuncData
  F_is_span : Fun K "is_span" "is_span" s_is_span f_is_span fd_is_span
  b_is_span : Binds K fd_is_span ["value"] []
  m_is_span : mg "is_span" = some (.ref f_is_span)
  f_is_limit : Addr
  fd_is_limit : FuncData
  F_is_limit : Fun K "is_limit" "is_limit" s_is_limit f_is_limit fd_is_limit
  b_is_limit : Binds K fd_is_limit ["value"] []
  m_is_limit : mg "is_limit" = some (.ref f_is_limit)
  f_law_cell : Addr
  fd_law_cell : FuncData
  F_law_cell : Fun K "_law_cell" "_law_cell" s_law_cell f_law_cell fd_law_cell
  b_law_cell : Binds K fd_law_cell ["_law_script", "_law_k"] []
  m_law_cell : mg "_law_cell" = some (.ref f_law_cell)
  f_law_box : Addr
  fd_law_box : FuncData
  F_law_box : Fun K "_law_box" "_law_box" s_law_box f_law_box fd_law_box
  b_law_box : Binds K fd_law_box ["_law_cell_here"] []
  m_law_box : mg "_law_box" = some (.ref f_law_box)
  f_law_take : Addr
  fd_law_take : FuncData
  F_law_take : Fun K "_law_take" "_law_take" s_law_take f_law_take fd_law_take
  b_law_take : Binds K fd_law_take ["_law_box_here", "_law_many"] []
  m_law_take : mg "_law_take" = some (.ref f_law_take)
  f_law_is_integer : Addr
  fd_law_is_integer : FuncData
  F_law_is_integer : Fun K "_law_is_integer" "_law_is_integer" s_law_is_integer f_law_is_integer fd_law_is_integer
  b_law_is_integer : Binds K fd_law_is_integer ["_law_value_here"] []
  m_law_is_integer : mg "_law_is_integer" = some (.ref f_law_is_integer)
  f_law_is_name : Addr
  fd_law_is_name : FuncData
  F_law_is_name : Fun K "_law_is_name" "_law_is_name" s_law_is_name f_law_is_name fd_law_is_name
  b_law_is_name : Binds K fd_law_is_name ["_law_value_here"] []
  m_law_is_name : mg "_law_is_name" = some (.ref f_law_is_name)
  f_law_is_span : Addr
  fd_law_is_span : FuncData
  F_law_is_span : Fun K "_law_is_span" "_law_is_span" s_law_is_span f_law_is_span fd_law_is_span
  b_law_is_span : Binds K fd_law_is_span ["_law_value_here"] []
  m_law_is_span : mg "_law_is_span" = some (.ref f_law_is_span)
  f_law_word : Addr
  fd_law_word : FuncData
  F_law_word : Fun K "_law_word" "_law_word" s_law_word f_law_word fd_law_word
  b_law_word : Binds K fd_law_word ["_law_box_here"] []
  m_law_word : mg "_law_word" = some (.ref f_law_word)
  f_law_limit : Addr
  fd_law_limit : FuncData
  F_law_limit : Fun K "_law_limit" "_law_limit" s_law_limit f_law_limit fd_law_limit
  b_law_limit : Binds K fd_law_limit ["_law_box_here"] []
  m_law_limit : mg "_law_limit" = some (.ref f_law_limit)
  f_law_value : Addr
  fd_law_value : FuncData
  F_law_value : Fun K "_law_value" "_law_value" s_law_value f_law_value fd_law_value
  b_law_value : Binds K fd_law_value ["_law_box_here"] []
  m_law_value : mg "_law_value" = some (.ref f_law_value)
  f_law : Addr
  fd_law : FuncData
  F_law : Fun K "law" "law" s_law f_law fd_law
  b_law : Binds K fd_law ["_law_script"] []
  m_law : mg "law" = some (.ref f_law)
  t_LONGEST_NAME : Tok
  c_LONGEST_NAME : mg "LONGEST_NAME" = some (.int 8 t_LONGEST_NAME)
  z_isinstance : mg "isinstance" = none
  z_int : mg "int" = none
  z_bool : mg "bool" = none
  z_all : mg "all" = none
  z_str : mg "str" = none
  z_len : mg "len" = none
  z_tuple : mg "tuple" = none
  z_max : mg "max" = none
  z_range : mg "range" = none
  z_min : mg "min" = none

/-! ### the mirror -/
def intO (o : Option PyData) : Bool := isT "int" o && !isT "bool" o
def limO (o : Option PyData) : Bool := nonO o || intO o
def okSign (c : Nat) : Bool := !decide (([c] : List Nat) < [97]) && !decide (([122] : List Nat) < [c])
def nameS (s : Str) : Bool := !(s == ("table" : Str)) && (decide ((1 : Int) ≤ s.length) && (decide ((s.length : Int) ≤ 8) && s.cps.toList.all okSign))
def nameO : Option PyData → Bool
  | some (.str s) => nameS s
  | _ => false
def ltO : PyData → PyData → Bool
  | .int i, .int j => decide (i < j)
  | _, _ => true
def spanO : Option PyData → Bool
  | some (.tuple [l, h]) => limO (some l) && (limO (some h) && ltO l h)
  | _ => false
theorem spanO_no {ds : List PyData} (h : ds.length ≠ 2) : spanO (some (.tuple ds)) = false := by
  match ds, h with
  | [], _ => rfl
  | [_], _ => rfl
  | [_, _], hl => exact absurd rfl hl
  | _ :: _ :: _ :: _, _ => rfl
theorem dp_two {K : PySem.W.Frag} {H : Hp} {xs : List V} {ds : List PyData} (h : DpAll K H xs ds) (e : xs.length = 2) : ∃ x y d e, xs = [x, y] ∧ ds = [d, e] ∧ Dp K H x d ∧ Dp K H y e := by
  match xs, ds, h, e with
  | [x, y], [d, e], .cons h1 (.cons h2 .nil), _ => exact ⟨x, y, d, e, rfl, rfl, h1, h2⟩
theorem spanO_ty {o : Option PyData} (e : isT "tuple" o = false) : spanO o = false := by
  rcases o with _ | d
  · rfl
  · cases d with
    | tuple s => cases e
    | _ => rfl
theorem nameO_no {o : Option PyData} (e : isT "str" o = false) : nameO o = false := by
  rcases o with _ | d
  · rfl
  · cases d with
    | str s => cases e
    | _ => rfl
theorem VD.str_of {K : PySem.W.Frag} {H : Hp} {v : V} {o : Option PyData} (hv : VD K H v o) (e : isT "str" o = true) : ∃ s, v = .str s ∧ o = some (.str s) ∧ s.length ≤ 1000 ∧ PyData.strOk s = true := by
  cases hv with
  | dat a b c =>
    cases a with
    | str s =>
      have := (shaped_iff.mp b).1
      simp only [PyData.canLay0] at this
      exact ⟨s, rfl, rfl, c s rfl, this⟩
    | _ => cases e
  | dic a => cases e
theorem VD.tup_of {K : PySem.W.Frag} {H : Hp} {v : V} {o : Option PyData} (hv : VD K H v o) (e : isT "tuple" o = true) : ∃ a xs ds, v = .ref a ∧ o = some (.tuple ds) ∧ SqT K H a xs ∧ DpAll K H xs ds ∧ SeqAt.shaped (.tuple ds) = true := by
  cases hv with
  | dat a b c =>
    cases a with
    | tup h1 h2 => exact ⟨_, _, _, rfl, rfl, h1, h2, b⟩
    | _ => cases e
  | dic a => cases e
theorem strOk_mem {s : Str} (h : PyData.strOk s = true) {c : Nat} (hc : c ∈ s.cps.toList) : c < 0x110000 := by
  unfold PyData.strOk at h
  rw [Array.all_eq_true'] at h
  exact of_decide_eq_true (h c (by simpa using hc))
theorem strOk_sign {c : Nat} (h : c < 0x110000) : PyData.strOk ⟨#[c]⟩ = true := by
  unfold PyData.strOk
  simp
  omega
/-- the values that are no limits -/
def filt : List V → List PyData → List V
  | x :: xs, d :: ds => if limO (some d) = true then filt xs ds else x :: filt xs ds
  | _, _ => []
theorem filt_len : ∀ (xs : List V) (ds : List PyData), (filt xs ds).length ≤ xs.length
  | [], _ => by simp [filt]
  | _ :: _, [] => by simp [filt]
  | x :: xs, d :: ds => by
    have ih := filt_len xs ds
    simp only [filt]
    split
    · simp only [List.length_cons]
      omega
    · simp only [List.length_cons]
      omega
theorem filt_step : ∀ {xs : List V} {ds : List PyData} {i : Nat} {x : V} {d : PyData}, xs[i]? = some x → ds[i]? = some d → filt (xs.take (i + 1)) (ds.take (i + 1)) = if limO (some d) = true then filt (xs.take i) (ds.take i) else filt (xs.take i) (ds.take i) ++ [x]
  | [], _, _, _, _, h, _ => by simp at h
  | _ :: _, [], _, _, _, _, h => by simp at h
  | y :: ys, e :: es, 0, x, d, h1, h2 => by
    cases h1
    cases h2
    simp [filt]
  | y :: ys, e :: es, i + 1, x, d, h1, h2 => by
    have ih := filt_step (xs := ys) (ds := es) (i := i) (x := x) (d := d) (by simpa using h1) (by simpa using h2)
    simp only [List.take_succ_cons, filt, ih]
    split <;> split <;> simp
theorem filt_dp {K : PySem.W.Frag} {H : Hp} : ∀ {xs : List V} {ds : List PyData}, DpAll K H xs ds → DpAll K H (filt xs ds) (ds.filter fun d => !limO (some d))
  | _, _, .nil => by simp [filt]; exact .nil
  | _, _, .cons (v := v) (d := d) a b => by
    have ih := filt_dp b
    simp only [filt]
    cases h : limO (some d) with
    | true =>
      simp [h]
      exact ih
    | false =>
      simp [h]
      exact .cons a ih
theorem okSign_is (c : Nat) : okSign c = decide (c ∈ ("abcdefghijklmnopqrstuvwxyz" : Str).cps.toList) := by
  have e : ("abcdefghijklmnopqrstuvwxyz" : Str).cps.toList = [97, 98, 99, 100, 101, 102, 103, 104, 105, 106, 107, 108, 109, 110, 111, 112, 113, 114, 115, 116, 117, 118, 119, 120, 121, 122] := by decide +kernel
  rw [e]
  unfold okSign
  rw [Bool.eq_iff_iff, Bool.and_eq_true, decide_eq_true_iff, Bool.not_eq_true', Bool.not_eq_true', decide_eq_false_iff_not, decide_eq_false_iff_not]
  simp only [List.cons_lt_cons_iff, List.not_lt_nil, and_false, or_false, List.mem_cons, List.not_mem_nil]
  omega
def sp_v1 (K : PySem.W.Frag) (f : Option PyData → Bool) : Sp := fun vs H Q _ => ∃ (v : V) (o : Option PyData), vs = [v] ∧ VD K H v o ∧ ∀ H', Same H H' → Q (.bl (f o)) H'
/-- the same without a word on the heap: nothing is made -/
def sp_v0 (K : PySem.W.Frag) (f : Option PyData → Bool) : Sp := fun vs H Q _ => ∃ (v : V) (d : PyData), vs = [v] ∧ Dp K H v d ∧ Q (.bl (f (some d))) H
def sp_vO (K : PySem.W.Frag) (f : Option PyData → Bool) : Sp := fun vs H Q _ => ∃ (v : V) (o : Option PyData), vs = [v] ∧ TyX K H v (.type (tyO o)) ∧ decide (v = .non) = nonO o ∧ Q (.bl (f o)) H
theorem dp_vO {K : PySem.W.Frag} {H : Hp} {v : V} {d : PyData} (h : Dp K H v d) : TyX K H v (.type (tyO (some d))) ∧ decide (v = .non) = nonO (some d) := by
  refine ⟨dp_ty h, ?_⟩
  cases h <;> rfl
theorem vd_vO {K : PySem.W.Frag} {H : Hp} {v : V} {o : Option PyData} (h : VD K H v o) : TyX K H v (.type (tyO o)) ∧ decide (v = .non) = nonO o := ⟨h.ty, vd_non h⟩
section
variable {P : Program} {w : World} {K : PySem.W.Frag} {mg : Str → Option Value} {base : Heap}
theorem ok_law_cell (T : Txt K mg) : FnOk P w K mg base CX0 1 T.f_law_cell T.fd_law_cell ["_law_script", "_law_k"] (sp_law_cell K) := by
  refine T.F_law_cell.ok sc_law_cell (fun vs H Q E h => ?_) (fun cdv A outer s H vs Q E hr h => ?_)
  · obtain ⟨a, ns, k, rfl, _⟩ := h
    rfl
  · obtain ⟨a, ns, k, rfl, hS, hk, kq⟩ := h
    refine ⟨_, (pss_cons (ps_if (pt_cmpR op_lt (pv 1) (pe_callB (id := "len") call_len_seq (by rfl) T.z_len (by decide +kernel) (pa_cons (pv 0) pa_nil)) (nomark _)) (pss_one (ps_ret (pe_ix ix_list (pv 0) (pv 1) (fun _ _ => rfl)))) pss_nil)
        (pss_one (ps_ret (pe_op op_add (pe_op op_mul pe_int (pv 1)) pe_int)))), ?_⟩
    refine ⟨_, rfl, _, rfl, a, _, rfl, .inl hS, _, _, rfl, rfl, _, rfl, ?_⟩
    refine ite2 (fun c => ?_) (fun c => ?_)
    · have c' := of_decide_eq_true c
      rw [List.length_map] at c'
      obtain ⟨j, rfl⟩ := Int.eq_ofNat_of_zero_le hk
      have hj : j < ns.length := by omega
      refine ⟨_, rfl, _, rfl, a, _, _, .int ns[j], rfl, rfl, hS, atI_nat (by rw [List.getElem?_map, List.getElem?_eq_getElem hj]; rfl), kq _⟩
    · refine ⟨_, rfl, _, _, rfl, rfl, .inl ⟨by decide, by decide⟩, _, _, rfl, rfl, kq _⟩
theorem ok_law_box (T : Txt K mg) : FnOk P w K mg base CX0 1 T.f_law_box T.fd_law_box ["_law_cell_here"] sp_law_box := by
  refine T.F_law_box.ok sc_law_box (fun vs H Q E h => ?_) (fun cdv A outer s H vs Q E hr h => ?_)
  · obtain ⟨z, rfl, _⟩ := h
    rfl
  · obtain ⟨z, rfl, k⟩ := h
    refine ⟨_, (pss_one (ps_ret (pe_lst (pa_cons (pe_callB (id := "max") (call_max2 rfl) (by rfl) T.z_max (by decide +kernel) (pa_cons pe_int (pa_cons (pe_op op_sub (pv 0) (pe_op op_pow pe_int pe_int)) pa_nil))) (pa_cons (pe_op op_mod (pv 0) pe_int) (pa_cons pe_int pa_nil)))))), ?_⟩
    refine ⟨_, rfl, _, _, rfl, rfl, ⟨by decide, by decide, by decide⟩, _, _, rfl, rfl, _, _, rfl, ?_⟩
    refine ⟨_, rfl, _, _, rfl, rfl, (by show (0 : Int) < 2147483629; decide), (by show 3 ≤ sizeLine; decide), fun p hp => ?_⟩
    refine k p _ hp ⟨_, _, _, upd_same, ?_, Int.emod_nonneg _ (by decide), Int.emod_lt_of_pos _ (by decide), by decide, by decide⟩
    by_cases c : z - 10 ^ (18 : Int).toNat > 0
    · rw [if_pos c]
      omega
    · rw [if_neg c]
      exact Int.le_refl _
theorem ok_law_take (T : Txt K mg) : FnOk P w K mg base CX0 1 T.f_law_take T.fd_law_take ["_law_box_here", "_law_many"] sp_law_take := by
  refine T.F_law_take.ok sc_law_take (fun vs H Q E h => ?_) (fun cdv A outer s H vs Q E hr h => ?_)
  · obtain ⟨H0, p, n, m, rfl, _⟩ := h
    rfl
  · obtain ⟨H0, p, n, m, rfl, B, hn, hm, hm2, k⟩ := h
    obtain ⟨d, s, c, hp, hd, hs, hs2, hc, hc2⟩ := B.box
    have hL : SqL K H p [.int d, .int s, .int c] := SqL.of hp
    have nx : ∀ (d' c' : Int), 0 ≤ d' → 0 ≤ c' → c' ≤ c + 1 → BoxIn H0 (upd H p (.lst [.int d', .int s, .int c'])) p (n + 1) := fun d' c' h1 h2 h3 =>
      ⟨fun x u e => by rw [upd_ne (ne_of_none e B.free)]; exact B.same _ _ e, B.free, d', s, c', upd_same, h1, hs, hs2, h2, by omega⟩
    refine ⟨_, (pss_cons (ps_if (pt_cmpR op_gt (pe_ix ix_list (pv 0) pe_int (fun _ _ => rfl)) pe_int (nomark _)) (pss_cons (ps_set (i := 2) sc_law_take.nd rfl (Or.inl rfl) (pe_op op_mod (pe_ix ix_list (pv 0) pe_int (fun _ _ => rfl)) (pv 1)))
        (pss_cons (ps_asg (pe_op op_fdiv (pe_ix ix_list (pv 0) pe_int (fun _ _ => rfl)) (pv 1)) (pg_sub (pv 0) pe_int set_list))
        (pss_one (ps_ret (pv 2))))) pss_nil)
        (pss_cons (ps_asg (pe_op op_add (pe_ix ix_list (pv 0) pe_int (fun _ _ => rfl)) pe_int) (pg_sub (pv 0) pe_int set_list))
        (pss_cons (ps_set (i := 3) sc_law_take.nd rfl (Or.inl rfl) (pe_op op_mod (pe_op op_pow (pe_op op_add (pe_op op_add (pe_ix ix_list (pv 0) pe_int (fun _ _ => rfl)) (pe_op op_mul pe_int (pe_ix ix_list (pv 0) pe_int (fun _ _ => rfl)))) pe_int) pe_int) pe_int))
        (pss_cons (ps_set (i := 3) sc_law_take.nd rfl (Or.inl rfl) (pe_op op_mod (pe_op op_pow (pe_op op_add (pv 3) (pe_op op_mul pe_int (pe_ix ix_list (pv 0) pe_int (fun _ _ => rfl)))) pe_int) pe_int))
        (pss_one (ps_ret (pe_op op_mod (pe_op op_fdiv (pv 3) pe_int) (pv 1)))))))), ?_⟩
    refine ⟨_, rfl, p, _, _, _, rfl, rfl, hL, atI_nat (j := 0) rfl, _, _, rfl, rfl, _, rfl, ?_⟩
    refine ite2 (fun c0 => ?_) (fun c0 => ?_)
    · have c0' := of_decide_eq_true c0
      refine ⟨_, rfl, p, _, _, _, rfl, rfl, hL, atI_nat (j := 0) rfl, _, rfl, _, _, rfl, rfl, hm, ?_⟩
      refine ⟨_, rfl, p, _, _, _, rfl, rfl, hL, atI_nat (j := 0) rfl, _, rfl, _, _, rfl, rfl, ⟨hm, by omega⟩, ?_⟩
      refine ⟨_, rfl, p, _, _, 0, rfl, rfl, hp, rfl, ?_⟩
      refine ⟨_, rfl, k _ _ (Int.emod_nonneg _ (by omega)) (Int.emod_lt_of_pos _ hm) (nx _ _ (Int.ediv_nonneg hd (by omega)) hc (by omega))⟩
    · refine ⟨_, rfl, p, _, _, _, rfl, rfl, hL, atI_nat (j := 2) rfl, _, _, rfl, rfl, ?_⟩
      refine ⟨_, rfl, p, _, _, 2, rfl, rfl, hp, rfl, ?_⟩
      have hL' : SqL K (upd H p (.lst [.int d, .int s, .int (c + 1)])) p [.int d, .int s, .int (c + 1)] := SqL.of upd_same
      refine ⟨_, rfl, p, _, _, _, rfl, rfl, hL', atI_nat (j := 1) rfl, _, rfl, p, _, _, _, rfl, rfl, hL', atI_nat (j := 2) rfl, _, _, rfl, rfl, .inl ⟨by decide, by decide⟩, _, _, rfl, rfl, _, _, rfl, rfl, _, _, rfl, rfl, ⟨by decide, by decide, by omega⟩, _, _, rfl, rfl, (by show (0 : Int) < 2147483647; decide), ?_⟩
      have h1 := Int.emod_nonneg ((s + 7919 * (c + 1) + 43) ^ (5 : Int).toNat) (show (2147483647 : Int) ≠ 0 by decide)
      have h2 := Int.emod_lt_of_pos ((s + 7919 * (c + 1) + 43) ^ (5 : Int).toNat) (show (0 : Int) < 2147483647 by decide)
      refine ⟨_, rfl, _, rfl, p, _, _, _, rfl, rfl, hL', atI_nat (j := 2) rfl, _, _, rfl, rfl, .inl ⟨by decide, by decide⟩, _, _, rfl, rfl, _, _, rfl, rfl, ⟨by decide, by decide, by omega⟩, _, _, rfl, rfl, (by show (0 : Int) < 2147483587; decide), ?_⟩
      refine ⟨_, rfl, _, _, rfl, rfl, ⟨by decide, by decide⟩, _, rfl, _, _, rfl, rfl, hm, ?_⟩
      exact k _ _ (Int.emod_nonneg _ (by omega)) (Int.emod_lt_of_pos _ hm) (nx _ _ hd (by omega) (by omega))
theorem ok_is_integer (T : Txt K mg) : FnOk P w K mg base CX0 1 T.f_is_integer T.fd_is_integer ["value"] (sp_vO K intO) := by
  refine T.F_is_integer.ok sc_is_integer (fun vs H Q E h => ?_) (fun cdv A outer s H vs Q E hr h => ?_)
  · obtain ⟨v, o, rfl, _⟩ := h
    rfl
  · obtain ⟨v, o, rfl, ty, _, k⟩ := h
    refine ⟨_, (pss_one (ps_ret (pe_and (pe_callB (id := "isinstance") call_isi (by rfl) T.z_isinstance (by decide +kernel) (pa_cons (pv 0) (pa_cons (pe_bltn (v := .ty "int") (u := .type "int") (by rfl) T.z_int (by decide +kernel) rfl) pa_nil))) (pe_one (pe_not (pe_callB (id := "isinstance") call_isi (by rfl) T.z_isinstance (by decide +kernel) (pa_cons (pv 0) (pa_cons (pe_bltn (v := .ty "bool") (u := .type "bool") (by rfl) T.z_bool (by decide +kernel) rfl) pa_nil)))))))), ?_⟩
    refine ⟨_, rfl, _, _, _, _, _, rfl, .ty _, ty, kit_o o (.inl rfl), _, rfl, ?_⟩
    unfold intO at k
    cases e : isT "int" o with
    | true =>
      rw [e] at k
      exact iteT ⟨_, rfl, _, _, _, _, _, rfl, .ty _, ty, kit_o o (.inr (.inl rfl)), _, rfl, k⟩
    | false =>
      rw [e] at k
      exact iteF k
theorem ok_is_limit (T : Txt K mg) : FnOk P w K mg base CX0 2 T.f_is_limit T.fd_is_limit ["value"] (sp_vO K limO) := by
  refine T.F_is_limit.ok sc_is_limit (fun vs H Q E h => ?_) (fun cdv A outer s H vs Q E hr h => ?_)
  · obtain ⟨v, o, rfl, _⟩ := h
    rfl
  · obtain ⟨v, o, rfl, ty, hn, k⟩ := h
    refine ⟨_, (pss_one (ps_ret (pe_or (pe_cmpR op_isN (pv 0) pe_non (nomark _)) (pe_one (pe_call (ok_is_integer T) hr rfl T.m_is_integer T.F_is_integer.kp T.b_is_integer .nil pass0 (pa_cons (pv 0) pa_nil)))))), ?_⟩
    refine ⟨_, rfl, rfl, _, rfl, ?_⟩
    unfold limO at k
    rw [hn]
    cases e : nonO o with
    | true =>
      rw [e] at k
      exact iteT k
    | false =>
      rw [e] at k
      exact iteF ⟨_, rfl, v, o, rfl, ty, hn, k⟩
theorem ok_is_span (T : Txt K mg) : FnOk P w K mg base CX0 3 T.f_is_span T.fd_is_span ["value"] (sp_v1 K spanO) := by
  refine T.F_is_span.ok sc_is_span (fun vs H Q E h => ?_) (fun cdv A outer s H vs Q E hr h => ?_)
  · obtain ⟨v, o, rfl, _⟩ := h
    rfl
  · obtain ⟨v, o, rfl, hv, k⟩ := h
    have ty := hv.ty
    have k := k H (Same.refl H)
    refine ⟨_, (pss_cons (ps_if (PW.pt (pw_or (pt_not (pt_val (pe_callB (id := "isinstance") call_isi (by rfl) T.z_isinstance (by decide +kernel) (pa_cons (pv 0) (pa_cons (pe_bltn (v := .ty "tuple") (u := .type "tuple") (by rfl) T.z_tuple (by decide +kernel) rfl) pa_nil))))) (pw_or1 (pt_cmpR op_ne (pe_callB (id := "len") call_len_seq (by rfl) T.z_len (by decide +kernel) (pa_cons (pv 0) pa_nil)) pe_int (nomark _))))) (pss_one (ps_ret pe_bl)) pss_nil)
        (pss_cons (ps_asg (pv 0) (pg_tup rfl (pgs_cons (pg_name (i := 1) sc_is_span.nd rfl (Or.inl rfl)) (pgs_cons (pg_name (i := 2) sc_is_span.nd rfl (Or.inl rfl)) pgs_nil))))
        (pss_cons (ps_if (PW.pt (pw_or (pt_not (pt_val (pe_call (ok_is_limit T) hr rfl T.m_is_limit T.F_is_limit.kp T.b_is_limit .nil pass0 (pa_cons (pv 1) pa_nil)))) (pw_or1 (pt_not (pt_val (pe_call (ok_is_limit T) hr rfl T.m_is_limit T.F_is_limit.kp T.b_is_limit .nil pass0 (pa_cons (pv 2) pa_nil))))))) (pss_one (ps_ret pe_bl)) pss_nil)
        (pss_one (ps_ret (pe_or (pe_cmpR op_isN (pv 1) pe_non (nomark _)) (pe_or (pe_cmpR op_isN (pv 2) pe_non (nomark _)) (pe_one (pe_cmpR op_lt (pv 1) (pv 2) (nomark _)))))))))), ?_⟩
    refine ⟨_, rfl, _, _, _, _, _, rfl, .ty _, ty, kit_o o (.inr (.inr (.inr rfl))), _, rfl, ?_⟩
    cases e : isT "tuple" o with
    | false =>
      have e2 : spanO o = false := by
        rcases o with _ | d
        · rfl
        · cases d with
          | tuple s => cases e
          | _ => rfl
      rw [e2] at k
      exact iteT (iteT k)
    | true =>
      obtain ⟨a, xs, ds, rfl, rfl, hT, hD⟩ : ∃ a xs ds, v = .ref a ∧ o = some (.tuple ds) ∧ SqT K H a xs ∧ DpAll K H xs ds := by
        cases hv with
        | dat a _ c =>
          cases a with
          | tup h1 h2 => exact ⟨_, _, _, rfl, rfl, h1, h2⟩
          | _ => cases e
        | dic a => cases e
      have hlen := dpAll_len hD
      refine iteF ⟨_, rfl, _, _, rfl, .inr hT, rfl, _, rfl, ?_⟩
      show (if (!decide (V.int (xs.length : Int) = V.int 2)) = true then _ else _)
      rw [dec_int]
      by_cases e2 : xs.length = 2
      · have e3 : (((xs.length : Nat) : Int) == 2) = true := by rw [e2]; rfl
        rw [e3]
        refine iteF ?_
        obtain ⟨x, y, d, d2, rfl, rfl, h1, h2⟩ := dp_two hD e2
        have t1 := dp_vO h1
        have t2 := dp_vO h2
        refine ⟨_, rfl, a, _, rfl, hT, rfl, _, _, rfl, _, _, rfl, rfl, ?_⟩
        have k : Q (.bl (limO (some d) && (limO (some d2) && ltO d d2))) H := k
        refine ⟨_, rfl, _, some d, rfl, t1.1, t1.2, _, rfl, ?_⟩
        cases l1 : limO (some d) with
        | false =>
          rw [l1] at k
          exact iteT (iteT k)
        | true =>
          rw [l1] at k
          refine iteF ⟨_, rfl, _, some d2, rfl, t2.1, t2.2, _, rfl, ?_⟩
          cases l2 : limO (some d2) with
          | false =>
            rw [l2] at k
            exact iteT k
          | true =>
            rw [l2] at k
            refine iteF ⟨_, rfl, rfl, _, rfl, ?_⟩
            have k : Q (.bl (ltO d d2)) H := k
            cases h1 with
            | non => exact iteT k
            | int i =>
              refine iteF ⟨_, rfl, rfl, _, rfl, ?_⟩
              cases h2 with
              | non => exact iteT k
              | int j => exact iteF ⟨_, rfl, _, rfl, _, _, rfl, rfl, k⟩
              | _ => cases l2
            | _ => cases l1
      · have e3 : (((xs.length : Nat) : Int) == 2) = false := by
          rw [beq_eq_false_iff_ne]
          omega
        rw [e3]
        have e4 : spanO (some (.tuple ds)) = false := spanO_no fun q => e2 (hlen.trans q)
        rw [e4] at k
        exact iteT k
theorem ok_is_name (T : Txt K mg) : FnOk P w K mg base CX0 1 T.f_is_name T.fd_is_name ["value"] (sp_v1 K nameO) := by
  refine T.F_is_name.ok sc_is_name (fun vs H Q E h => ?_) (fun cdv A outer s H vs Q E hr h => ?_)
  · obtain ⟨v, o, rfl, _⟩ := h
    rfl
  · obtain ⟨v, o, rfl, hv, k⟩ := h
    have ty := hv.ty
    refine ⟨_, (pss_cons (ps_if (PW.pt (pw_or (pt_not (pt_val (pe_callB (id := "isinstance") call_isi (by rfl) T.z_isinstance (by decide +kernel) (pa_cons (pv 0) (pa_cons (pe_bltn (v := .ty "str") (u := .type "str") (by rfl) T.z_str (by decide +kernel) rfl) pa_nil))))) (pw_or1 (pt_cmpR op_eq (pv 0) pe_str (nomark _))))) (pss_one (ps_ret pe_bl)) pss_nil)
        (pss_one (ps_ret (pe_and (pe_chain op_le op_le pe_int (pe_callB (id := "len") call_len_str (by rfl) T.z_len (by decide +kernel) (pa_cons (pv 0) pa_nil)) (pe_glob (v := .int 8) rfl T.c_LONGEST_NAME ⟨_, rfl⟩)) (pe_one (pe_callB (id := "all") (cr_all rfl) (by rfl) T.z_all (by decide +kernel) (pa_cons (pe_lc (own := [("sign", 1)]) (g := gName 1) (tt := tYes) rfl sc_is_name.nd (pi_str (pv 0)) (blkOk_by (own := [("sign", 1)]) (N := ["value", "sign"]) (sc := defScope s_is_name) (by decide +kernel)) (fun _ _ _ _ _ => (pg_name (i := 1) sc_is_name.nd rfl (Or.inl rfl))) (fun _ _ _ _ _ => pts_nil) (fun _ _ _ _ _ => (pe_chain op_le_str op_le_str pe_str (pv 1) pe_str))) pa_nil))))))), ?_⟩
    refine ⟨_, rfl, _, _, _, _, _, rfl, .ty _, ty, kit_o o (.inr (.inr (.inl rfl))), _, rfl, ?_⟩
    cases e : isT "str" o with
    | false =>
      have e2 : nameO o = false := by
        rcases o with _ | d
        · rfl
        · cases d with
          | str s => cases e
          | _ => rfl
      rw [e2] at k
      exact iteT (iteT (k H (Same.refl H)))
    | true =>
      obtain ⟨s, rfl, rfl, hs⟩ : ∃ s, v = .str s ∧ o = some (.str s) ∧ s.length ≤ 1000 := by
        cases hv with
        | dat a _ c =>
          cases a with
          | str s => exact ⟨s, rfl, rfl, c s rfl⟩
          | _ => cases e
        | dic a => cases e
      have hz : s.length ≤ sizeLine := Nat.le_trans hs (by decide)
      refine iteF ⟨_, rfl, rfl, _, rfl, ?_⟩
      have k : ∀ H', Same H H' → Q (.bl (nameS s)) H' := k
      unfold nameS at k
      rw [dec_str]
      cases e1 : s == ("table" : Str) with
      | true =>
        rw [e1] at k
        exact iteT (k H (Same.refl H))
      | false =>
        rw [e1] at k
        refine iteF ?_
        have k : ∀ H', Same H H' → Q (.bl (decide ((1 : Int) ≤ s.length) && (decide ((s.length : Int) ≤ 8) && s.cps.toList.all okSign))) H' := k
        refine ⟨_, rfl, _, rfl, hz, _, _, rfl, rfl, _, rfl, ?_⟩
        cases e2 : decide ((1 : Int) ≤ s.length) with
        | false =>
          rw [e2] at k
          exact iteF ⟨_, rfl, iteF (k H (Same.refl H))⟩
        | true =>
          rw [e2] at k
          refine iteT ⟨_, _, rfl, rfl, _, rfl, ?_⟩
          cases e3 : decide ((s.length : Int) ≤ 8) with
          | false =>
            rw [e3] at k
            exact iteF (k H (Same.refl H))
          | true =>
            rw [e3] at k
            refine iteT ⟨_, rfl, _, rfl, ?_⟩
            intro D hD
            refine lc_acc walk_str hD (fun _ _ => trivial) (fun i => (s.cps.toList.take i).map fun c => V.bl (okSign c)) rfl (fun i hi => ?_) ?_ ?_
            · rw [List.length_map, List.length_take]
              have : s.cps.size ≤ 1000 := hs
              exact Nat.lt_of_le_of_lt (Nat.min_le_left _ _) (Nat.lt_of_lt_of_le hi (Nat.le_trans this (by decide)))
            · rintro i x H2 hi ⟨c, hc, rfl⟩ s1 R S r1 r2
              have ea : ((s.cps.toList.take (i + 1)).map fun c => V.bl (okSign c)) = ((s.cps.toList.take i).map fun c => V.bl (okSign c)) ++ [V.bl (okSign c)] := by
                have hc' : s.cps.toList[i]? = some c := by rw [Array.getElem?_toList]; exact hc
                rw [List.take_add_one, hc']
                simp
              refine ⟨rfl, tyes ⟨_, rfl, _, _, rfl, rfl, _, rfl, ?_⟩⟩
              have ec : okSign c = (!decide (([c] : List Nat) < [97]) && !decide (([122] : List Nat) < [c])) := rfl
              have ea1 : ("a" : Str).cps.toList = [97] := by decide +kernel
              have ez1 : ("z" : Str).cps.toList = [122] := by decide +kernel
              rw [ea1]
              cases e4 : (!decide (([c] : List Nat) < [97])) with
              | false =>
                rw [e4] at ec
                refine iteF (r1 _ _ ?_ (Same.refl _))
                rw [ea, ec]
                rfl
              | true =>
                rw [e4] at ec
                refine iteT ⟨_, _, rfl, rfl, r1 _ _ ?_ (Same.refl _)⟩
                rw [ea, ec, ez1]
                rfl
            · intro H2 s1 hl
              refine ⟨D, s.cps.toList.map okSign, rfl, SqL.of ?_, ?_⟩
              · rw [hl, List.map_map]
                have : s.cps.toList.take s.cps.size = s.cps.toList := by rw [← Array.length_toList, List.take_length]
                rw [this]
                rfl
              · have := k H2 s1
                rw [List.all_map]
                exact this
theorem ok_law_is_integer (T : Txt K mg) : FnOk P w K mg base CX0 1 T.f_law_is_integer T.fd_law_is_integer ["_law_value_here"] (sp_vO K intO) := by
  refine T.F_law_is_integer.ok sc_law_is_integer (fun vs H Q E h => ?_) (fun cdv A outer s H vs Q E hr h => ?_)
  · obtain ⟨v, o, rfl, _⟩ := h
    rfl
  · obtain ⟨v, o, rfl, ty, _, k⟩ := h
    refine ⟨_, (pss_one (ps_ret (pe_and (pe_callB (id := "isinstance") call_isi (by rfl) T.z_isinstance (by decide +kernel) (pa_cons (pv 0) (pa_cons (pe_bltn (v := .ty "int") (u := .type "int") (by rfl) T.z_int (by decide +kernel) rfl) pa_nil))) (pe_one (pe_not (pe_callB (id := "isinstance") call_isi (by rfl) T.z_isinstance (by decide +kernel) (pa_cons (pv 0) (pa_cons (pe_bltn (v := .ty "bool") (u := .type "bool") (by rfl) T.z_bool (by decide +kernel) rfl) pa_nil)))))))), ?_⟩
    refine ⟨_, rfl, _, _, _, _, _, rfl, .ty _, ty, kit_o o (.inl rfl), _, rfl, ?_⟩
    unfold intO at k
    cases e : isT "int" o with
    | true =>
      rw [e] at k
      exact iteT ⟨_, rfl, _, _, _, _, _, rfl, .ty _, ty, kit_o o (.inr (.inl rfl)), _, rfl, k⟩
    | false =>
      rw [e] at k
      exact iteF k
theorem ok_law_is_name (T : Txt K mg) : FnOk P w K mg base CX0 1 T.f_law_is_name T.fd_law_is_name ["_law_value_here"] (sp_v1 K nameO) := by
  refine T.F_law_is_name.ok sc_law_is_name (fun vs H Q E h => ?_) (fun cdv A outer s H vs Q E hr h => ?_)
  · obtain ⟨v, o, rfl, _⟩ := h
    rfl
  · obtain ⟨v, o, rfl, hv, k⟩ := h
    have ty := hv.ty
    refine ⟨_, (pss_cons (ps_if (PW.pt (pw_or (pt_not (pt_val (pe_callB (id := "isinstance") call_isi (by rfl) T.z_isinstance (by decide +kernel) (pa_cons (pv 0) (pa_cons (pe_bltn (v := .ty "str") (u := .type "str") (by rfl) T.z_str (by decide +kernel) rfl) pa_nil))))) (pw_or (pt_cmpR op_eq (pv 0) pe_str (nomark _)) (pw_or (pt_cmpR op_lt (pe_callB (id := "len") call_len_str (by rfl) T.z_len (by decide +kernel) (pa_cons (pv 0) pa_nil)) pe_int (nomark _)) (pw_or1 (pt_cmpR op_gt (pe_callB (id := "len") call_len_str (by rfl) T.z_len (by decide +kernel) (pa_cons (pv 0) pa_nil)) pe_int (nomark _))))))) (pss_one (ps_ret pe_bl)) pss_nil)
        (pss_one (ps_ret (pe_cmpR (op_eqD hr.units) (pe_lc (own := [("_law_sign", 1)]) (g := gName 1) rfl sc_law_is_name.nd (pi_str (pv 0)) (blkOk_by (own := [("_law_sign", 1)]) (N := ["_law_value_here", "_law_sign"]) (sc := defScope s_law_is_name) (by decide +kernel)) (fun _ _ _ _ _ => (pg_name (i := 1) sc_law_is_name.nd rfl (Or.inl rfl))) (fun _ _ _ _ _ => (pts_one (pt_cmpR op_notIn_sign (pv 1) pe_str (by rfl)))) (fun _ _ _ _ _ => (pv 1))) (pe_lst pa_nil) (nomark _))))), ?_⟩
    refine ⟨_, rfl, _, _, _, _, _, rfl, .ty _, ty, kit_o o (.inr (.inr (.inl rfl))), _, rfl, ?_⟩
    cases e : isT "str" o with
    | false =>
      rw [nameO_no e] at k
      exact iteT (iteT (k H (Same.refl H)))
    | true =>
      obtain ⟨s, rfl, rfl, hs, hok⟩ := hv.str_of e
      have hz : s.length ≤ sizeLine := Nat.le_trans hs (by decide)
      refine iteF ⟨_, rfl, rfl, _, rfl, ?_⟩
      have k : ∀ H', Same H H' → Q (.bl (nameS s)) H' := k
      unfold nameS at k
      rw [dec_str]
      cases e1 : s == ("table" : Str) with
      | true =>
        rw [e1] at k
        exact iteT (iteT (k H (Same.refl H)))
      | false =>
        rw [e1] at k
        refine iteF ⟨_, rfl, _, rfl, hz, _, _, rfl, rfl, _, rfl, ?_⟩
        by_cases e2 : (1 : Int) ≤ s.length
        · have e2' : decide ((s.length : Int) < 1) = false := decide_eq_false (by omega)
          rw [decide_eq_true e2] at k
          rw [e2']
          refine iteF ⟨_, rfl, _, rfl, hz, _, _, rfl, rfl, _, rfl, ?_⟩
          by_cases e3 : (s.length : Int) ≤ 8
          · have e3' : decide ((8 : Int) < s.length) = false := decide_eq_false (by omega)
            rw [decide_eq_true e3] at k
            rw [e3']
            refine iteF ⟨_, rfl, _, rfl, fun D hD => ?_⟩
            refine lc_acc walk_str hD (fun _ _ => trivial) (fun i => ((s.cps.toList.take i).filter fun c => !okSign c).map fun c => V.str ⟨#[c]⟩) rfl (fun i hi => ?_) ?_ ?_
            · rw [List.length_map]
              have h1 := List.length_filter_le (fun c => !okSign c) (s.cps.toList.take i)
              rw [List.length_take] at h1
              have : s.cps.size ≤ 1000 := hs
              exact Nat.lt_of_le_of_lt h1 (Nat.lt_of_le_of_lt (Nat.min_le_left _ _) (Nat.lt_of_lt_of_le hi (Nat.le_trans this (by decide))))
            · rintro i x H2 hi ⟨c, hc, rfl⟩ s1 R S r1 r2
              have hc' : s.cps.toList[i]? = some c := by rw [Array.getElem?_toList]; exact hc
              refine ⟨rfl, _, rfl, c, _, rfl, rfl, _, rfl, ?_⟩
              rw [← okSign_is]
              cases e4 : okSign c with
              | true =>
                refine iteF (r2 _ ?_ (Same.refl _))
                rw [List.take_add_one, hc']
                simp [e4]
              | false =>
                refine iteT ⟨_, rfl, r1 _ _ ?_ (Same.refl _)⟩
                rw [List.take_add_one, hc']
                simp [e4]
            · intro H2 s1 hl
              have ht : s.cps.toList.take s.cps.size = s.cps.toList := by rw [← Array.length_toList, List.take_length]
              rw [ht] at hl
              refine ⟨Nat.zero_le _, fun q hq => ?_⟩
              have s2 : Same H2 (upd H2 q (.lst [])) := fun b o eb => by
                rw [upd_ne (ne_of_none eb hq)]
                exact eb
              have hq2 : Dp K (upd H2 q (.lst [])) (.ref q) (.list []) := .lst (SqL.of upd_same) .nil
              have hl2 : Dp K (upd H2 q (.lst [])) (.ref D) (.list ((s.cps.toList.filter fun c => !okSign c).map fun c => PyData.str ⟨#[c]⟩)) := by
                refine .lst (SqL.of (s2 _ _ hl)) ?_
                have := dpAll_strs (K := K) (H := upd H2 q (.lst [])) ((s.cps.toList.filter fun c => !okSign c).map fun c => (⟨#[c]⟩ : Str))
                rw [List.map_map, List.map_map] at this
                exact this
              refine ⟨_, _, hl2, hq2, shaped_list (n := 1) (by decide) (fun d hd => ?_), shaped_nil, ?_⟩
              · obtain ⟨c, hc, rfl⟩ := List.mem_map.mp hd
                refine ⟨?_, by simp [PyData.depth]⟩
                simp only [PyData.canLay0]
                exact strOk_sign (strOk_mem hok (List.mem_filter.mp hc).1)
              · rw [eqv_nil]
                have ee : (((s.cps.toList.filter fun c => !okSign c).map fun c => PyData.str ⟨#[c]⟩).isEmpty) = s.cps.toList.all okSign := by
                  rw [List.isEmpty_map]
                  generalize s.cps.toList = l
                  induction l with
                  | nil => rfl
                  | cons a r ih => cases h : okSign a <;> simp [h, ih]
                rw [ee]
                exact k _ (s1.trans s2)
          · have e3' : decide ((8 : Int) < s.length) = true := decide_eq_true (by omega)
            rw [decide_eq_false e3] at k
            rw [e3']
            exact iteT (k H (Same.refl H))
        · have e2' : decide ((s.length : Int) < 1) = true := decide_eq_true (by omega)
          rw [decide_eq_false e2] at k
          rw [e2']
          exact iteT (iteT (k H (Same.refl H)))
theorem ok_law_is_span (T : Txt K mg) : FnOk P w K mg base CX0 2 T.f_law_is_span T.fd_law_is_span ["_law_value_here"] (sp_v1 K spanO) := by
  refine T.F_law_is_span.ok sc_law_is_span (fun vs H Q E h => ?_) (fun cdv A outer s H vs Q E hr h => ?_)
  · obtain ⟨v, o, rfl, _⟩ := h
    rfl
  · obtain ⟨v, o, rfl, hv, k⟩ := h
    have ty := hv.ty
    refine ⟨_, (pss_cons (ps_if (PW.pt (pw_or (pt_not (pt_val (pe_callB (id := "isinstance") call_isi (by rfl) T.z_isinstance (by decide +kernel) (pa_cons (pv 0) (pa_cons (pe_bltn (v := .ty "tuple") (u := .type "tuple") (by rfl) T.z_tuple (by decide +kernel) rfl) pa_nil))))) (pw_or1 (pt_cmpR op_ne (pe_callB (id := "len") call_len_seq (by rfl) T.z_len (by decide +kernel) (pa_cons (pv 0) pa_nil)) pe_int (nomark _))))) (pss_one (ps_ret pe_bl)) pss_nil)
        (pss_cons (ps_if (pt_cmpR (op_neD hr.units) (pe_lc (own := [("_law_limit_here", 1)]) (g := gName 1) rfl sc_law_is_span.nd (pi_tup (pv 0)) (blkOk_by (own := [("_law_limit_here", 1)]) (N := ["_law_value_here", "_law_limit_here"]) (sc := defScope s_law_is_span) (by decide +kernel)) (fun _ _ _ _ _ => (pg_name (i := 1) sc_law_is_span.nd rfl (Or.inl rfl))) (fun _ _ _ _ _ => (pts_one (PW.pt (pw_and (pt_cmpR op_notN (pv 1) pe_non (nomark _)) (pw_and1 (pt_not (pt_val (pe_call (ok_law_is_integer T) hr rfl T.m_law_is_integer T.F_law_is_integer.kp T.b_law_is_integer .nil pass0 (pa_cons (pv 1) pa_nil))))))))) (fun _ _ _ _ _ => (pv 1))) (pe_lst pa_nil) (nomark _)) (pss_one (ps_ret pe_bl)) pss_nil)
        (pss_one (ps_ret (pe_or (pe_cmpR op_isN (pe_ix ix_tup (pv 0) pe_int (fun _ _ => rfl)) pe_non (nomark _)) (pe_or (pe_cmpR op_isN (pe_ix ix_tup (pv 0) pe_int (fun _ _ => rfl)) pe_non (nomark _)) (pe_one (pe_cmpR op_lt (pe_ix ix_tup (pv 0) pe_int (fun _ _ => rfl)) (pe_ix ix_tup (pv 0) pe_int (fun _ _ => rfl)) (nomark _))))))))), ?_⟩
    refine ⟨_, rfl, _, _, _, _, _, rfl, .ty _, ty, kit_o o (.inr (.inr (.inr rfl))), _, rfl, ?_⟩
    cases e : isT "tuple" o with
    | false =>
      rw [spanO_ty e] at k
      exact iteT (iteT (k H (Same.refl H)))
    | true =>
      obtain ⟨a, xs, ds, rfl, rfl, hT, hD, hsh⟩ := hv.tup_of e
      have hlen := dpAll_len hD
      refine iteF ⟨_, rfl, _, _, rfl, .inr hT, rfl, _, rfl, ?_⟩
      rw [dec_int]
      by_cases e2 : xs.length = 2
      · have e3 : (((xs.length : Nat) : Int) == 2) = true := by rw [e2]; rfl
        rw [e3]
        refine iteF ?_
        obtain ⟨x, y, d, d2, rfl, rfl, h1, h2⟩ := dp_two hD e2
        have t1 := dp_vO h1
        have t2 := dp_vO h2
        have k : ∀ H', Same H H' → Q (.bl (limO (some d) && (limO (some d2) && ltO d d2))) H' := k
        refine ⟨_, rfl, a, rfl, ⟨_, hT⟩, fun D hD => ?_⟩
        refine lc_acc walk_tup hD (fun H' s' => same_t s' hT) (fun i => filt ([x, y].take i) ([d, d2].take i)) rfl (fun i hi => Nat.lt_of_le_of_lt (filt_len _ _) ?_) ?_ ?_
        · rw [List.length_take]
          exact Nat.lt_of_le_of_lt (Nat.min_le_right _ _) (by show 2 < sizeLine; decide)
        · rintro i z H2 hi hz s1 R S r1 r2
          have hi : i < 2 := hi
          obtain ⟨dz, hdz, vz⟩ := dpAll_get (.cons h1 (.cons h2 .nil)) hz
          have tz := dp_vO (dp_mono s1 vz)
          have step := filt_step (xs := [x, y]) (ds := [d, d2]) hz hdz
          refine ⟨rfl, _, rfl, rfl, _, rfl, ?_⟩
          rw [tz.2]
          cases l1 : nonO (some dz) with
          | true =>
            refine iteF (iteF (r2 _ ?_ (Same.refl _)))
            rw [step]
            have : limO (some dz) = true := by unfold limO; rw [l1]; rfl
            rw [if_pos this]
          | false =>
            refine iteT ⟨_, rfl, _, some dz, rfl, tz.1, tz.2, _, rfl, ?_⟩
            cases l2 : intO (some dz) with
            | true =>
              refine iteF (r2 _ ?_ (Same.refl _))
              rw [step]
              have : limO (some dz) = true := by unfold limO; rw [l1, l2]; rfl
              rw [if_pos this]
            | false =>
              refine iteT ⟨_, rfl, r1 _ _ ?_ (Same.refl _)⟩
              rw [step]
              have : ¬ limO (some dz) = true := by unfold limO; rw [l1, l2]; decide
              rw [if_neg this]
        · intro H2 s1 hl
          have hl : H2 D = some (.lst (filt [x, y] [d, d2])) := hl
          refine ⟨Nat.zero_le _, fun q hq => ?_⟩
          have s2 : Same H2 (upd H2 q (.lst [])) := fun b o eb => by
            rw [upd_ne (ne_of_none eb hq)]
            exact eb
          have s3 := s1.trans s2
          have hq2 : Dp K (upd H2 q (.lst [])) (.ref q) (.list []) := .lst (SqL.of upd_same) .nil
          have hl2 : Dp K (upd H2 q (.lst [])) (.ref D) (.list ([d, d2].filter fun d => !limO (some d))) := .lst (SqL.of (s2 _ _ hl)) (filt_dp (dpAll_mono s3 (.cons h1 (.cons h2 .nil))))
          refine ⟨_, _, hl2, hq2, shaped_list (n := 63) (by decide) (fun d hd => shaped_of_tuple hsh (List.mem_filter.mp hd).1), shaped_nil, _, rfl, ?_⟩
          have k := k _ s3
          rw [eqv_nil]
          cases l1 : limO (some d) with
          | false =>
            rw [l1] at k
            have : ([d, d2].filter fun d => !limO (some d)).isEmpty = false := by simp [l1]
            rw [this]
            exact iteT k
          | true =>
            rw [l1] at k
            cases l2 : limO (some d2) with
            | false =>
              rw [l2] at k
              have : ([d, d2].filter fun d => !limO (some d)).isEmpty = false := by simp [l1, l2]
              rw [this]
              exact iteT k
            | true =>
              rw [l2] at k
              have k : Q (.bl (ltO d d2)) _ := k
              have : ([d, d2].filter fun d => !limO (some d)).isEmpty = true := by simp [l1, l2]
              rw [this]
              have hT3 := same_t s3 hT
              refine iteF ⟨_, rfl, a, _, _, _, rfl, rfl, hT3, atI_nat (j := 0) rfl, rfl, _, rfl, ?_⟩
              cases h1 with
              | non => exact iteT k
              | int i =>
                refine iteF ⟨_, rfl, a, _, _, _, rfl, rfl, hT3, atI_nat (j := 1) rfl, rfl, _, rfl, ?_⟩
                cases h2 with
                | non => exact iteT k
                | int j => exact iteF ⟨_, rfl, a, _, _, _, rfl, rfl, hT3, atI_nat (j := 0) rfl, _, rfl, a, _, _, _, rfl, rfl, hT3, atI_nat (j := 1) rfl, _, _, rfl, rfl, k⟩
                | _ => cases l2
              | _ => cases l1
      · have e3 : (((xs.length : Nat) : Int) == 2) = false := by
          rw [beq_eq_false_iff_ne]
          omega
        rw [e3]
        have e4 : spanO (some (.tuple ds)) = false := spanO_no fun q => e2 (hlen.trans q)
        rw [e4] at k
        exact iteT (k H (Same.refl H))
theorem ok_law_word (T : Txt K mg) : FnOk P w K mg base CX0 2 T.f_law_word T.fd_law_word ["_law_box_here"] (sp_draw 40 fun _ v => ∃ s, v = .str s ∧ sOk 1000 s) := by
  refine T.F_law_word.ok sc_law_word (fun vs H Q E h => ?_) (fun cdv A outer s H vs Q E hr h => ?_)
  · obtain ⟨H0, p, n, rfl, _⟩ := h
    rfl
  · obtain ⟨H0, p, n, rfl, B, hn, k⟩ := h
    refine ⟨_, (pss_cons (ps_set (i := 1) sc_law_word.nd rfl (Or.inl rfl) (pe_join pe_str (pe_lc (own := [("_law_k", 3)]) (g := gName 3) (tt := tYes) rfl sc_law_word.nd (pi_range1 rfl T.z_range (pa_cons (pe_call (ok_law_take T) hr rfl T.m_law_take T.F_law_take.kp T.b_law_take .nil pass0 (pa_cons (pv 0) (pa_cons pe_int pa_nil))) pa_nil)) (blkOk_by (own := [("_law_k", 3)]) (N := ["_law_box_here", "_law_word_here", "_law_at", "_law_k"]) (sc := defScope s_law_word) (by decide +kernel)) (fun _ _ _ _ _ => (pg_name (i := 3) sc_law_word.nd rfl (Or.inl rfl))) (fun _ _ _ _ _ => pts_nil) (fun _ _ _ _ _ => (pe_ix ix_str pe_str (pe_call (ok_law_take T) hr rfl T.m_law_take T.F_law_take.kp T.b_law_take .nil pass0 (pa_cons (pv 0) (pa_cons pe_int pa_nil))) (fun _ _ => rfl))))))
        (C8.pss_cut (ps_if (pt_cmpR op_eq (pe_call (ok_law_take T) hr rfl T.m_law_take T.F_law_take.kp T.b_law_take .nil pass0 (pa_cons (pv 0) (pa_cons pe_int pa_nil))) pe_int (nomark _)) (pss_cons (ps_set (i := 2) sc_law_word.nd rfl (Or.inl rfl) (pe_call (ok_law_take T) hr rfl T.m_law_take T.F_law_take.kp T.b_law_take .nil pass0 (pa_cons (pv 0) (pa_cons (pe_op op_add (pe_callB (id := "len") call_len_str (by rfl) T.z_len (by decide +kernel) (pa_cons (pv 1) pa_nil)) pe_int) pa_nil))))
        (pss_one (ps_set (i := 1) sc_law_word.nd rfl (Or.inl rfl) (pe_op op_add_str (pe_op op_add_str (pe_slice sl_str (pv 1) po_none (po_some (pv 2))) (pe_ix ix_str pe_str (pe_call (ok_law_take T) hr rfl T.m_law_take T.F_law_take.kp T.b_law_take .nil pass0 (pa_cons (pv 0) (pa_cons pe_int pa_nil))) (fun _ _ => rfl))) (pe_slice sl_str (pv 1) (po_some (pv 2)) po_none))))) pss_nil)
        (pss_one (ps_ret (pe_ix ix_list (pe_lst (pa_cons (pv 1) (pa_cons pe_str (pa_cons pe_str (pa_cons pe_str (pa_cons pe_str (pa_cons pe_str pa_nil))))))) (pe_call (ok_law_take T) hr rfl T.m_law_take T.F_law_take.kp T.b_law_take .nil pass0 (pa_cons (pv 0) (pa_cons pe_int pa_nil))) (fun _ _ => rfl)))))), ?_⟩
    refine ⟨⟨_, rfl⟩, _, rfl, H0, p, n, 10, rfl, B, by omega, by decide, by decide, fun z1 H1 z10 z11 B1 => ?_⟩
    refine ⟨z1, rfl, by omega, by omega, fun D hD => ?_⟩
    have hDp : D ≠ p := by
      obtain ⟨_, _, _, hp, _⟩ := B1.box
      exact (ne_of_none hp hD).symm
    have hD0 : H0 D = none := B1.same.free hD
    refine lc_range (fun i H2 => ∃ ys : List Str, H2 D = some (.lst (ys.map V.str)) ∧ ys.length = i ∧ (∀ y ∈ ys, sOk 1 y) ∧ BoxIn H0 H2 p (n + 1 + i)) ⟨[], upd_same, rfl, (fun y hy => by cases hy), B1.mut hDp hD0⟩ ?_ ?_
    · rintro i H2 hi ⟨ys, hl, hy, hok, B2⟩
      refine ⟨rfl, tyes ⟨_, rfl, but H2 p, p, _, 6, rfl, B2.all.1, by omega, by decide, by decide, fun z3 H3 z30 z31 B3 => ?_⟩⟩
      obtain ⟨c, hc, hm⟩ := atI_in (xs := ("abtelz" : Str).cps.toList) z30 z31
      refine ⟨_, z3, c, rfl, rfl, by decide, hc, ys.map V.str, B3.same _ _ (by rw [but_ne hDp]; exact hl), ?_, ys ++ [⟨#[c]⟩], ?_, ?_, ?_, ?_⟩
      · rw [List.length_map]
        exact Nat.lt_of_le_of_lt (Nat.le_of_eq hy) (Nat.lt_of_lt_of_le (show i < 100 by omega) (by decide))
      · rw [upd_same, List.map_append]
        rfl
      · simp [hy]
      · intro y hyy
        rcases List.mem_append.mp hyy with q | q
        · exact hok y q
        · obtain rfl := List.mem_singleton.mp q
          refine ⟨Nat.le_refl _, strOk_sign ?_⟩
          have all : ∀ c ∈ ("abtelz" : Str).cps.toList, c < 0x110000 := by decide +kernel
          exact all c hm
      · exact (B3.low B2.all.2).mut hDp hD0
    · rintro H2 ⟨ys, hl, hy, hok, B2⟩
      have hj := join_ok hok
      refine ⟨_, D, ys, rfl, rfl, .inl (SqL.of hl), ?_, ?_⟩
      · have := sum_le ys 1 fun y hyy => (hok y hyy).1
        have e0 : (Str.ofString "").length = 0 := by decide +kernel
        rw [e0]
        omega
      have hw : sOk 10 (Txt.join Str.empty ys) := hj.mono (by omega)
      refine ⟨fun σ H3 => ∃ (z : Str) (v : Option V), σ = [some (.ref p), some (.str z), v, none] ∧ sOk 100 z ∧ BoxIn H0 H3 p (n + 30), ?_, ?_⟩
      · refine ⟨_, rfl, H0, p, _, 3, rfl, B2, by omega, by decide, by decide, fun z3 H3 z30 z31 B3 => ?_⟩
        refine ⟨rfl, _, rfl, ?_⟩
        refine ite2 (fun c => ?_) (fun c => ?_)
        · refine ⟨_, rfl, _, rfl, _, rfl, Nat.le_trans hw.1 (by decide), _, _, rfl, rfl, ?_⟩
          have hlen : ((Txt.join Str.empty ys).length : Int) + 1 < 1000000 := by
            have := hw.1
            omega
          refine ⟨H0, p, _, _, rfl, B3, by omega, by omega, hlen, fun z4 H4 z40 z41 B4 => ?_⟩
          refine ⟨_, rfl, ⟨_, rfl, _, rfl, _, rfl, Nat.le_trans hw.1 (by decide), ?_⟩⟩
          refine ⟨_, rfl, H0, p, _, 8, rfl, B4, by omega, by decide, by decide, fun z5 H5 z50 z51 B5 => ?_⟩
          obtain ⟨c5, hc5, hm5⟩ := atI_in (xs := (" 0A_-.:!" : Str).cps.toList) z50 z51
          have h5 : sOk 1 (⟨#[c5]⟩ : Str) := by
            refine ⟨Nat.le_refl _, strOk_sign ?_⟩
            have all : ∀ c ∈ (" 0A_-.:!" : Str).cps.toList, c < 0x110000 := by decide +kernel
            exact all c5 hm5
          have ha := (hw.cut none (some z4)).app h5
          have hb := hw.cut (some z4) none
          have hab := ha.app hb
          refine ⟨_, z5, c5, rfl, rfl, by decide, hc5, _, _, rfl, rfl, ?_, ?_⟩
          · have := ha.1
            rw [Str.length_append] at this
            exact Nat.le_trans this (by decide)
          refine ⟨_, rfl, _, rfl, _, rfl, _, rfl, Nat.le_trans hw.1 (by decide), ?_⟩
          refine ⟨_, _, rfl, rfl, ?_, ?_⟩
          · have := hab.1
            rw [Str.length_append] at this
            exact Nat.le_trans this (by decide)
          · exact ⟨_, _, rfl, hab.mono (by omega), B5.mono (by omega)⟩
        · exact ⟨_, _, rfl, hw.mono (by omega), B3.mono (by omega)⟩
      · rintro σ H3 ⟨z, v, rfl, hz, B3⟩
        refine ⟨_, rfl, (by show 6 ≤ sizeLine; decide), fun l hl => ?_⟩
        have B4 := B3.keep (same_new (o := .lst [.str z, .str "table", .str "tables", .str "tabl", .str "tablea", .str "table "]) hl)
        refine ⟨_, rfl, _, p, _, 6, rfl, B4.all.1, by omega, by decide, by decide, fun z5 H5 z50 z51 B5 => ?_⟩
        have hlp : l ≠ p := by
          obtain ⟨_, _, _, hp, _⟩ := B3.box
          exact (ne_of_none hp hl).symm
        have hl5 : H5 l = some (.lst [.str z, .str "table", .str "tables", .str "tabl", .str "tablea", .str "table "]) := B5.same _ _ (by rw [but_ne hlp, upd_same])
        obtain ⟨v, hv, hm⟩ := atI_in (xs := [V.str z, .str "table", .str "tables", .str "tabl", .str "tablea", .str "table "]) z50 z51
        refine ⟨l, _, z5, v, rfl, rfl, SqL.of hl5, hv, ?_⟩
        refine k H0 H5 v (Same.refl _) ((B5.low B4.all.2).mono (by omega)) ?_
        simp only [List.mem_cons, List.not_mem_nil, or_false] at hm
        rcases hm with rfl | rfl | rfl | rfl | rfl | rfl
        · exact ⟨_, rfl, hz.mono (by decide)⟩
        all_goals exact ⟨_, rfl, by unfold sOk; decide +kernel⟩
theorem ok_law_limit (T : Txt K mg) : FnOk P w K mg base CX0 2 T.f_law_limit T.fd_law_limit ["_law_box_here"] (sp_draw 2 fun H v => ∃ d, Dp K H v d ∧ d.canLay0 = true ∧ d.depth ≤ 2) := by
  refine T.F_law_limit.ok sc_law_limit (fun vs H Q E h => ?_) (fun cdv A outer s H vs Q E hr h => ?_)
  · obtain ⟨H0, p, n, rfl, _⟩ := h
    rfl
  · obtain ⟨H0, p, n, rfl, B, hn, k⟩ := h
    refine ⟨_, (pss_cons (ps_set (i := 1) sc_law_limit.nd rfl (Or.inl rfl) (pe_op op_sub (pe_call (ok_law_take T) hr rfl T.m_law_take T.F_law_take.kp T.b_law_take .nil pass0 (pa_cons (pv 0) (pa_cons pe_int pa_nil))) pe_int))
        (pss_one (ps_ret (pe_ix ix_list (pe_lst (pa_cons pe_non (pa_cons (pv 1) (pa_cons (pv 1) (pa_cons (pe_op op_mul (pv 1) (pe_op op_pow pe_int pe_int)) (pa_cons pe_bl (pa_cons pe_str (pa_cons (pe_tup (pa_cons pe_int pa_nil)) pa_nil)))))))) (pe_call (ok_law_take T) hr rfl T.m_law_take T.F_law_take.kp T.b_law_take .nil pass0 (pa_cons (pv 0) (pa_cons pe_int pa_nil))) (fun _ _ => rfl))))), ?_⟩
    refine ⟨_, rfl, H0, p, n, 5, rfl, B, by omega, by decide, by decide, fun z1 H1 z10 z11 B1 => ?_⟩
    refine ⟨_, _, rfl, rfl, ?_⟩
    refine ⟨_, rfl, _, rfl, _, rfl, _, _, rfl, rfl, ⟨by decide, by decide, by decide⟩, _, _, rfl, rfl, .inl ⟨by omega, by omega⟩, (by show 1 ≤ sizeLine; decide), fun t ht => ?_⟩
    refine ⟨(by show 7 ≤ sizeLine; decide), fun l hl => ?_⟩
    have ntl : t ≠ l := fun q => by
      rw [q, upd_same] at hl
      cases hl
    have s2 : Same H1 (upd H1 t (.tup [.int 1])) := same_new ht
    have s3 := same_new (o := .lst [.non, .int (z1 - 2), .int (z1 - 2), .int ((z1 - 2) * 10 ^ (28 : Int).toNat), .bl true, .str "1", .ref t]) hl
    have B3 := (B1.keep s2).keep s3
    have htp : t ≠ p := by
      obtain ⟨_, _, _, hp, _⟩ := B1.box
      exact (ne_of_none hp ht).symm
    have hlp : l ≠ p := by
      obtain ⟨_, _, _, hp, _⟩ := (B1.keep s2).box
      exact (ne_of_none hp hl).symm
    refine ⟨_, rfl, _, p, _, 7, rfl, B3.all.1, by omega, by decide, by decide, fun z5 H5 z50 z51 B5 => ?_⟩
    have hl5 : H5 l = some (.lst [.non, .int (z1 - 2), .int (z1 - 2), .int ((z1 - 2) * 10 ^ (28 : Int).toNat), .bl true, .str "1", .ref t]) := B5.same _ _ (by rw [but_ne hlp, upd_same])
    have ht5 : H5 t = some (.tup [.int 1]) := B5.same _ _ (by rw [but_ne htp, upd_ne ntl, upd_same])
    obtain ⟨v, hv, hm⟩ := atI_in (xs := [V.non, .int (z1 - 2), .int (z1 - 2), .int ((z1 - 2) * 10 ^ (28 : Int).toNat), .bl true, .str "1", .ref t]) z50 z51
    refine ⟨l, _, z5, v, rfl, rfl, SqL.of hl5, hv, ?_⟩
    refine k (but H5 p) H5 v ((B5.low B3.all.2).all.2) (B5.all.1.mono (by omega)) ?_
    simp only [List.mem_cons, List.not_mem_nil, or_false] at hm
    rcases hm with rfl | rfl | rfl | rfl | rfl | rfl | rfl
    · exact ⟨_, .non, rfl, by decide⟩
    · exact ⟨_, .int _, rfl, by simp [PyData.depth]⟩
    · exact ⟨_, .int _, rfl, by simp [PyData.depth]⟩
    · exact ⟨_, .int _, rfl, by simp [PyData.depth]⟩
    · exact ⟨_, .bl _, rfl, by simp [PyData.depth]⟩
    · exact ⟨_, .str _, by decide +kernel, by simp [PyData.depth]⟩
    · exact ⟨.tuple [.int 1], .tup (SqT.of (by rw [but_ne htp]; exact ht5)) (.cons (.int 1) .nil), rfl, by simp [PyData.depth, PyData.depthAll]⟩
theorem ok_law_value (T : Txt K mg) : FnOk P w K mg base CX0 3 T.f_law_value T.fd_law_value ["_law_box_here"] (sp_draw 60 fun H v => ∃ o, VD K H v o) := by
  refine T.F_law_value.ok sc_law_value (fun vs H Q E h => ?_) (fun cdv A outer s H vs Q E hr h => ?_)
  · obtain ⟨H0, p, n, rfl, _⟩ := h
    rfl
  · obtain ⟨H0, p, n, rfl, B, hn, k⟩ := h
    refine ⟨_, (pss_cons (ps_set (i := 1) sc_law_value.nd rfl (Or.inl rfl) (pe_call (ok_law_take T) (hr.mono (by decide)) rfl T.m_law_take T.F_law_take.kp T.b_law_take .nil pass0 (pa_cons (pv 0) (pa_cons pe_int pa_nil))))
        (pss_cons (ps_if (pt_cmpR op_eq (pv 1) pe_int (nomark _)) (pss_one (ps_ret (pe_call (ok_law_word T) hr rfl T.m_law_word T.F_law_word.kp T.b_law_word .nil pass0 (pa_cons (pv 0) pa_nil)))) pss_nil)
        (pss_cons (ps_if (pt_cmpR op_lt (pv 1) pe_int (nomark _)) (pss_one (ps_ret (pe_tup (pa_cons (pe_call (ok_law_limit T) hr rfl T.m_law_limit T.F_law_limit.kp T.b_law_limit .nil pass0 (pa_cons (pv 0) pa_nil)) (pa_cons (pe_call (ok_law_limit T) hr rfl T.m_law_limit T.F_law_limit.kp T.b_law_limit .nil pass0 (pa_cons (pv 0) pa_nil)) pa_nil))))) pss_nil)
        (pss_cons (ps_if (pt_cmpR op_eq (pv 1) pe_int (nomark _)) (pss_one (ps_ret (pe_ix ix_list (pe_lst (pa_cons (pe_tup pa_nil) (pa_cons (pe_tup (pa_cons pe_int pa_nil)) (pa_cons (pe_tup (pa_cons pe_int (pa_cons pe_int (pa_cons pe_int pa_nil)))) (pa_cons (pe_lst (pa_cons pe_int (pa_cons pe_int pa_nil))) (pa_cons (pe_tup (pa_cons pe_non (pa_cons pe_non pa_nil))) (pa_cons (pe_tup (pa_cons pe_non (pa_cons pe_int pa_nil))) (pa_cons (pe_tup (pa_cons pe_int (pa_cons pe_non pa_nil))) (pa_cons (pe_tup (pa_cons pe_int (pa_cons pe_int pa_nil))) (pa_cons (pe_disp (pps_cons pe_int pe_int pps_nil) (by rfl) (by rfl) (fun z => by cases z) (by decide)) pa_nil)))))))))) (pe_call (ok_law_take T) (hr.mono (by decide)) rfl T.m_law_take T.F_law_take.kp T.b_law_take .nil pass0 (pa_cons (pv 0) (pa_cons pe_int pa_nil))) (fun _ _ => rfl)))) pss_nil)
        (pss_one (ps_ret (pe_ix ix_list (pe_lst (pa_cons pe_non (pa_cons pe_bl (pa_cons pe_bl (pa_cons pe_int (pa_cons (pe_un un_neg pe_int) (pa_cons (pe_op op_pow pe_int pe_int) (pa_cons (pe_lst pa_nil) (pa_cons pe_str (pa_cons pe_str (pa_cons pe_str (pa_cons (pe_op op_mul_str pe_str pe_int) (pa_cons (pe_op op_mul_str pe_str pe_int) pa_nil))))))))))))) (pe_call (ok_law_take T) (hr.mono (by decide)) rfl T.m_law_take T.F_law_take.kp T.b_law_take .nil pass0 (pa_cons (pv 0) (pa_cons pe_int pa_nil))) (fun _ _ => rfl)))))))), ?_⟩
    refine ⟨_, rfl, H0, p, n, 5, rfl, B, by omega, by decide, by decide, fun z1 H1 z10 z11 B1 => ?_⟩
    refine ⟨_, rfl, rfl, _, rfl, ?_⟩
    rw [dec_int]
    refine ite2 (fun c => ?_) (fun c => ?_)
    · refine ⟨_, rfl, H0, p, _, rfl, B1, by omega, fun H2 H3 v s2 B2 hv => ?_⟩
      obtain ⟨z, rfl, hz⟩ := hv
      refine k H2 H3 _ s2 (B2.mono (by omega)) ⟨_, .dat (.str z) (shaped_iff.mpr ⟨?_, by simp [PyData.depth]⟩) fun s e => by cases e; exact hz.1⟩
      simp only [PyData.canLay0]
      exact hz.2
    · refine ⟨_, rfl, _, _, rfl, rfl, _, rfl, ?_⟩
      refine ite2 (fun c2 => ?_) (fun c2 => ?_)
      · refine ⟨_, rfl, H0, p, _, rfl, B1, by omega, fun H2 H3 v s2 B2 hv => ?_⟩
        obtain ⟨d1, hd1, hc1, hp1⟩ := hv
        refine ⟨_, rfl, H2, p, _, rfl, B2, by omega, fun H4 H5 v2 s4 B4 hv2 => ?_⟩
        obtain ⟨d2, hd2, hc2, hp2⟩ := hv2
        refine ⟨(by show 2 ≤ sizeLine; decide), fun t ht => ?_⟩
        have B6 := B4.new (o := .tup [v, v2]) ht
        refine k _ _ _ (s2.trans (s4.trans B6.2)) (B6.1.mono (by omega)) ⟨some (.tuple [d1, d2]), .dat (.tup (SqT.of upd_same) (.cons (dp_mono (s4.trans B6.2) hd1) (.cons (dp_mono B6.2 hd2) .nil))) (shaped_iff.mpr ⟨?_, ?_⟩) fun s e => by cases e⟩
        · simp [PyData.canLay0, PyData.canLayAll0, hc1, hc2]
        · simp only [PyData.depth, PyData.depthAll]
          omega
      · refine ⟨_, rfl, rfl, _, rfl, ?_⟩
        rw [dec_int]
        refine ite2 (fun c3 => ?_) (fun c3 => ?_)
        · refine ⟨(by show 0 ≤ sizeLine; decide), fun t1 ht1 => ?_⟩
          refine ⟨(by show 1 ≤ sizeLine; decide), fun t2 ht2 => ?_⟩
          refine ⟨(by show 3 ≤ sizeLine; decide), fun t3 ht3 => ?_⟩
          refine ⟨(by show 2 ≤ sizeLine; decide), fun t4 ht4 => ?_⟩
          refine ⟨(by show 2 ≤ sizeLine; decide), fun t5 ht5 => ?_⟩
          refine ⟨(by show 2 ≤ sizeLine; decide), fun t6 ht6 => ?_⟩
          refine ⟨(by show 2 ≤ sizeLine; decide), fun t7 ht7 => ?_⟩
          refine ⟨(by show 2 ≤ sizeLine; decide), fun t8 ht8 => ?_⟩
          have b1 := B1.new (o := .tup []) ht1
          have b2 := b1.1.new (o := .tup [.int 1]) ht2
          have b3 := b2.1.new (o := .tup [.int 1, .int 2, .int 3]) ht3
          have b4 := b3.1.new (o := .lst [.int 1, .int 2]) ht4
          have b5 := b4.1.new (o := .tup [.non, .non]) ht5
          have b6 := b5.1.new (o := .tup [.non, .int 5]) ht6
          have b7 := b6.1.new (o := .tup [.int 5, .non]) ht7
          have b8 := b7.1.new (o := .tup [.int 5, .int 5]) ht8
          intro t9 ht9
          refine ⟨upd_same, [(Sum.inl 1, .int 2)], rfl, (by decide), ?_⟩
          rw [upd_upd]
          have b9 := b8.1.new (o := .dK (mergeK [] [(Sum.inl 1, .int 2)])) ht9
          refine ⟨(by show 9 ≤ sizeLine; decide), fun l hl => ?_⟩
          have b10 := b9.1.new (o := .lst [.ref t1, .ref t2, .ref t3, .ref t4, .ref t5, .ref t6, .ref t7, .ref t8, .ref t9]) hl
          refine ⟨_, rfl, _, p, _, 9, rfl, b10.1, by omega, by decide, by decide, fun z5 H5 z50 z51 B5 => ?_⟩
          obtain ⟨v, hv, hm⟩ := atI_in (xs := [V.ref t1, .ref t2, .ref t3, .ref t4, .ref t5, .ref t6, .ref t7, .ref t8, .ref t9]) z50 z51
          refine ⟨l, _, z5, v, rfl, rfl, SqL.of (B5.same _ _ upd_same), hv, ?_⟩
          refine k _ _ _ (b1.2.trans (b2.2.trans (b3.2.trans (b4.2.trans (b5.2.trans (b6.2.trans (b7.2.trans (b8.2.trans (b9.2.trans b10.2))))))))) (B5.mono (by omega)) ?_
          simp only [List.mem_cons, List.not_mem_nil, or_false] at hm
          have m10 := b10.2
          have m9 := b9.2.trans m10
          have m8 := b8.2.trans m9
          have m7 := b7.2.trans m8
          have m6 := b6.2.trans m7
          have m5 := b5.2.trans m6
          have m4 := b4.2.trans m5
          have m3 := b3.2.trans m4
          have m2 := b2.2.trans m3
          rcases hm with rfl | rfl | rfl | rfl | rfl | rfl | rfl | rfl | rfl
          · exact ⟨some (.tuple []), .dat (.tup (SqT.of (m2 _ _ upd_same)) .nil) (by decide +kernel) fun s e => by cases e⟩
          · exact ⟨some (.tuple [.int 1]), .dat (.tup (SqT.of (m3 _ _ upd_same)) (.cons (.int 1) .nil)) (by decide +kernel) fun s e => by cases e⟩
          · exact ⟨some (.tuple [.int 1, .int 2, .int 3]), .dat (.tup (SqT.of (m4 _ _ upd_same)) (.cons (.int 1) (.cons (.int 2) (.cons (.int 3) .nil)))) (by decide +kernel) fun s e => by cases e⟩
          · exact ⟨some (.list [.int 1, .int 2]), .dat (.lst (SqL.of (m5 _ _ upd_same)) (.cons (.int 1) (.cons (.int 2) .nil))) (by decide +kernel) fun s e => by cases e⟩
          · exact ⟨some (.tuple [.none, .none]), .dat (.tup (SqT.of (m6 _ _ upd_same)) (.cons .non (.cons .non .nil))) (by decide +kernel) fun s e => by cases e⟩
          · exact ⟨some (.tuple [.none, .int 5]), .dat (.tup (SqT.of (m7 _ _ upd_same)) (.cons .non (.cons (.int 5) .nil))) (by decide +kernel) fun s e => by cases e⟩
          · exact ⟨some (.tuple [.int 5, .none]), .dat (.tup (SqT.of (m8 _ _ upd_same)) (.cons (.int 5) (.cons .non .nil))) (by decide +kernel) fun s e => by cases e⟩
          · exact ⟨some (.tuple [.int 5, .int 5]), .dat (.tup (SqT.of (m9 _ _ upd_same)) (.cons (.int 5) (.cons (.int 5) .nil))) (by decide +kernel) fun s e => by cases e⟩
          · exact ⟨none, .dic (m10 _ _ upd_same)⟩
        · refine ⟨_, rfl, _, _, rfl, rfl, ⟨by decide, by decide, by decide⟩, (by show 0 ≤ sizeLine; decide), fun t1 ht1 => ?_⟩
          have b1 := B1.new (o := .lst []) ht1
          refine ⟨_, _, rfl, rfl, ?_, _, _, rfl, rfl, ?_, (by show 12 ≤ sizeLine; decide), fun l hl => ?_⟩
          · unfold MulOk; decide +kernel
          · unfold MulOk; decide +kernel
          have b10 := b1.1.new (o := .lst [.non, .bl true, .bl false, .int 0, .int (-1), .int (10 ^ (29 : Int).toNat), .ref t1, .str "1", .str "", .str "a", .str (Txt.mul "b" 8), .str (Txt.mul "b" 9)]) hl
          refine ⟨_, rfl, _, p, _, 12, rfl, b10.1, by omega, by decide, by decide, fun z5 H5 z50 z51 B5 => ?_⟩
          obtain ⟨v, hv, hm⟩ := atI_in (xs := [V.non, .bl true, .bl false, .int 0, .int (-1), .int (10 ^ (29 : Int).toNat), .ref t1, .str "1", .str "", .str "a", .str (Txt.mul "b" 8), .str (Txt.mul "b" 9)]) z50 z51
          refine ⟨l, _, z5, v, rfl, rfl, SqL.of (B5.same _ _ upd_same), hv, ?_⟩
          refine k _ _ _ (b1.2.trans b10.2) (B5.mono (by omega)) ?_
          simp only [List.mem_cons, List.not_mem_nil, or_false] at hm
          rcases hm with rfl | rfl | rfl | rfl | rfl | rfl | rfl | rfl | rfl | rfl | rfl | rfl
          · exact ⟨_, .dat .non (by decide +kernel) fun s e => by cases e⟩
          · exact ⟨_, .dat (.bl _) (by decide +kernel) fun s e => by cases e⟩
          · exact ⟨_, .dat (.bl _) (by decide +kernel) fun s e => by cases e⟩
          · exact ⟨_, .dat (.int _) (by decide +kernel) fun s e => by cases e⟩
          · exact ⟨_, .dat (.int _) (by decide +kernel) fun s e => by cases e⟩
          · exact ⟨_, .dat (.int _) (by decide +kernel) fun s e => by cases e⟩
          · exact ⟨some (.list []), .dat (.lst (SqL.of (b10.2 _ _ upd_same)) .nil) (by decide +kernel) fun s e => by cases e⟩
          all_goals exact ⟨_, .dat (.str _) (by decide +kernel) fun s e => by cases e; decide +kernel⟩
theorem ok_law (T : Txt K mg) : FnOk P w K mg base CX0 4 T.f_law T.fd_law ["_law_script"] (sp_law K) := by
  refine T.F_law.ok sc_law (fun vs H Q E h => ?_) (fun cdv A outer s H vs Q E hr h => ?_)
  · obtain ⟨a, ns, rfl, _⟩ := h
    rfl
  · obtain ⟨a, ns, rfl, hS, hlen, k⟩ := h
    refine ⟨_, (pss_cons (ps_for PassesOwn.never rfl (pi_range1 rfl T.z_range (pa_cons (pe_callB (id := "max") (call_max2 rfl) (by rfl) T.z_max (by decide +kernel) (pa_cons pe_int (pa_cons (pe_callB (id := "min") (call_min2 rfl) (by rfl) T.z_min (by decide +kernel) (pa_cons pe_int (pa_cons (pe_callB (id := "len") call_len_seq (by rfl) T.z_len (by decide +kernel) (pa_cons (pv 0) pa_nil)) pa_nil))) pa_nil))) pa_nil)) (pg_name (i := 1) sc_law.nd rfl (Or.inl rfl))
          (pss_cons (ps_set (i := 2) sc_law.nd rfl (Or.inl rfl) (pe_call (ok_law_box T) (hr.mono (by decide)) rfl T.m_law_box T.F_law_box.kp T.b_law_box .nil pass0 (pa_cons (pe_call (ok_law_cell T) (hr.mono (by decide)) rfl T.m_law_cell T.F_law_cell.kp T.b_law_cell .nil pass0 (pa_cons (pv 0) (pa_cons (pv 1) pa_nil))) pa_nil)))
        (pss_cons (ps_set (i := 3) sc_law.nd rfl (Or.inl rfl) (pe_call (ok_law_value T) hr rfl T.m_law_value T.F_law_value.kp T.b_law_value .nil pass0 (pa_cons (pv 2) pa_nil)))
        (pss_cons (ps_set (i := 4) sc_law.nd rfl (Or.inl rfl) (pe_lst (pa_cons (pe_call (ok_is_integer T) (hr.mono (by decide)) rfl T.m_is_integer T.F_is_integer.kp T.b_is_integer .nil pass0 (pa_cons (pv 3) pa_nil)) (pa_cons (pe_call (ok_is_name T) (hr.mono (by decide)) rfl T.m_is_name T.F_is_name.kp T.b_is_name .nil pass0 (pa_cons (pv 3) pa_nil)) (pa_cons (pe_call (ok_is_span T) hr rfl T.m_is_span T.F_is_span.kp T.b_is_span .nil pass0 (pa_cons (pv 3) pa_nil)) pa_nil)))))
        (pss_cons (ps_set (i := 5) sc_law.nd rfl (Or.inl rfl) (pe_lst (pa_cons (pe_call (ok_law_is_integer T) (hr.mono (by decide)) rfl T.m_law_is_integer T.F_law_is_integer.kp T.b_law_is_integer .nil pass0 (pa_cons (pv 3) pa_nil)) (pa_cons (pe_call (ok_law_is_name T) (hr.mono (by decide)) rfl T.m_law_is_name T.F_law_is_name.kp T.b_law_is_name .nil pass0 (pa_cons (pv 3) pa_nil)) (pa_cons (pe_call (ok_law_is_span T) (hr.mono (by decide)) rfl T.m_law_is_span T.F_law_is_span.kp T.b_law_is_span .nil pass0 (pa_cons (pv 3) pa_nil)) pa_nil)))))
        (pss_one (ps_if (PW.pt (pw_or (pt_cmpR (op_neD hr.units) (pe_lc (own := [("_law_one", 6)]) (g := gName 6) rfl sc_law.nd (pi_list (pv 4)) (blkOk_by (own := [("_law_one", 6)]) (N := ["_law_script", "_law_k", "_law_box_here", "_law_value_here", "_law_told", "_law_due", "_law_one"]) (sc := defScope s_law) (by decide +kernel)) (fun _ _ _ _ _ => (pg_name (i := 6) sc_law.nd rfl (Or.inl rfl))) (fun _ _ _ _ _ => (pts_one (pt_not (pt_val (pe_callB (id := "isinstance") (r := rIsi K) call_isi (by rfl) T.z_isinstance (by decide +kernel) (pa_cons (pv 6) (pa_cons (pe_bltn (v := .ty "bool") (u := .type "bool") (by rfl) T.z_bool (by decide +kernel) rfl) pa_nil))))))) (fun _ _ _ _ _ => (pv 6))) (pe_lst pa_nil) (nomark _)) (pw_or1 (pt_cmpR (op_neD hr.units) (pv 4) (pv 5) (nomark _))))) (pss_one (ps_ret pe_bl)) pss_nil)))))))
        (pss_one (ps_ret pe_bl))), ?_⟩
    refine ⟨_, rfl, a, _, rfl, .inl hS, _, _, rfl, _, _, rfl, _, rfl, ?_, ?_, for_range (fun i σ H' => ∃ v1 v2 v3 v4 v5, σ = [some (.ref a), v1, v2, v3, v4, v5, none] ∧ Same H H') ⟨none, none, none, none, none, rfl, Same.refl H⟩ ?_ ?_⟩
    · repeat' split
      all_goals omega
    · repeat' split
      all_goals omega
    · rintro i σ H1 hi ⟨v1, v2, v3, v4, v5, rfl, s1⟩
      refine ⟨_, rfl, _, rfl, a, ns, _, rfl, s1.seq hS, (by omega), fun z => ⟨z, rfl, fun p o hp bx => ?_⟩⟩
      have B : BoxIn H1 (upd H1 p o) p 0 := ⟨same_new hp, hp, bx⟩
      refine ⟨_, rfl, H1, p, 0, rfl, B, by decide, fun H2 H3 v s2 B3 hv => ?_⟩
      obtain ⟨o, hv⟩ := hv
      have hv3 := hv.mono B3.same
      have hO := vd_vO hv3
      have s13 : Same H1 H3 := s2.trans B3.same
      refine ⟨_, rfl, v, o, rfl, hO.1, hO.2, _, rfl, v, o, rfl, hv3, fun H4 s4 => ?_⟩
      refine ⟨_, rfl, v, o, rfl, hv3.mono s4, fun H5 s5 => ⟨(by show 3 ≤ sizeLine; decide), fun l1 hl1 => ?_⟩⟩
      have s6 := same_new (o := .lst [.bl (intO o), .bl (nameO o), .bl (spanO o)]) hl1
      have hv6 := hv3.mono (s4.trans (s5.trans s6))
      have hO6 := vd_vO hv6
      refine ⟨_, rfl, v, o, rfl, hO6.1, hO6.2, _, rfl, v, o, rfl, hv6, fun H7 s7 => ?_⟩
      refine ⟨_, rfl, v, o, rfl, hv6.mono s7, fun H8 s8 => ⟨(by show 3 ≤ sizeLine; decide), fun l2 hl2 => ?_⟩⟩
      have s9 := same_new (o := .lst [.bl (intO o), .bl (nameO o), .bl (spanO o)]) hl2
      have s69 := s7.trans (s8.trans s9)
      refine ⟨_, rfl, l1, rfl, ⟨_, SqL.of (s69 _ _ upd_same)⟩, fun D hD => ?_⟩
      refine lc_acc walk_list hD (fun H' s' => SqL.of (s' _ _ (s69 _ _ upd_same))) (fun _ => []) rfl (fun _ _ => by show 0 < sizeLine; decide) ?_ ?_
      · rintro j x H10 hj hx s10 R S r1 r2
        obtain ⟨b, rfl⟩ : ∃ b, x = V.bl b := by
          have hm := List.mem_of_getElem? hx
          simp only [List.mem_cons, List.not_mem_nil, or_false] at hm
          rcases hm with rfl | rfl | rfl
          all_goals exact ⟨_, rfl⟩
        exact ⟨rfl, _, rfl, _, _, _, _, _, rfl, .ty _, .base (.bl b), kit_ty (r := true) (by decide +kernel), _, rfl, iteF (r2 _ rfl (Same.refl _))⟩
      · intro H10 s10 hl
        refine ⟨Nat.zero_le _, fun q hq => ?_⟩
        have s11 := same_new (o := .lst []) hq
        refine ⟨_, _, .lst (SqL.of (s11 _ _ hl)) .nil, .lst (SqL.of upd_same) .nil, shaped_nil, shaped_nil, _, rfl, ?_⟩
        refine iteF ?_
        have h1 : Dp K (upd H10 q (.lst [])) (.ref l1) (.list [.bool (intO o), .bool (nameO o), .bool (spanO o)]) := .lst (SqL.of (s11 _ _ (s10 _ _ (s69 _ _ upd_same)))) (dpAll_bls [intO o, nameO o, spanO o])
        have h2 : Dp K (upd H10 q (.lst [])) (.ref l2) (.list [.bool (intO o), .bool (nameO o), .bool (spanO o)]) := .lst (SqL.of (s11 _ _ (s10 _ _ upd_same))) (dpAll_bls [intO o, nameO o, spanO o])
        have sh : SeqAt.shaped (.list [.bool (intO o), .bool (nameO o), .bool (spanO o)]) = true := by
          cases intO o <;> cases nameO o <;> cases spanO o <;> decide +kernel
        refine ⟨_, rfl, _, rfl, _, _, h1, h2, sh, sh, _, rfl, ?_⟩
        have ee : PyData.eqv (.list [.bool (intO o), .bool (nameO o), .bool (spanO o)]) (.list [.bool (intO o), .bool (nameO o), .bool (spanO o)]) = true := by
          cases intO o <;> cases nameO o <;> cases spanO o <;> decide +kernel
        rw [ee]
        refine iteF ?_
        exact ⟨_, _, _, _, _, rfl, s1.trans (s13.trans (s4.trans (s5.trans (s6.trans (s69.trans (s10.trans s11))))))⟩
    · rintro σ H1 ⟨v1, v2, v3, v4, v5, rfl, s1⟩
      exact k H1
end
theorem all_mk {l : PySem.W.OpenLaw} {w : World} {K : PySem.W.Frag} {h : Heap} {mg : Str → Option Value} {fa f0 f1 f2 f3 f4 f5 f6 f7 f8 f9 f10 f11 f12 f13 : Addr} (X : K.In h) (G : h.Ns mainGlobals mg) (hfa : mg "law" = some (.ref fa))
    {od0 an0 : Option Addr} {sl0 : Array (Option Value)} {oc0 kV0 dc0 pm0 cd0 ct0 : Value}
    (a0 : PySem.W.nsIn K mainGlobals "is_integer" = some (some (.ref f0))) (l0 : K.lookup f0 = some ⟨oc0, od0, .func (PySem.W.fnOf "is_integer" "is_integer" (defArgs s_is_integer) (defBody s_is_integer) (defScope s_is_integer) .none kV0 dc0 pm0 an0 cd0 ct0), sl0⟩) (c0 : PySem.W.codeIn K cd0 "is_integer" = true) (k0 : PySem.W.keepIn K (.ref f0) = true)
    {od1 an1 : Option Addr} {sl1 : Array (Option Value)} {oc1 kV1 dc1 pm1 cd1 ct1 : Value}
    (a1 : PySem.W.nsIn K mainGlobals "is_name" = some (some (.ref f1))) (l1 : K.lookup f1 = some ⟨oc1, od1, .func (PySem.W.fnOf "is_name" "is_name" (defArgs s_is_name) (defBody s_is_name) (defScope s_is_name) .none kV1 dc1 pm1 an1 cd1 ct1), sl1⟩) (c1 : PySem.W.codeIn K cd1 "is_name" = true) (k1 : PySem.W.keepIn K (.ref f1) = true)
    {od2 an2 : Option Addr} {sl2 : Array (Option Value)} {oc2 kV2 dc2 pm2 cd2 ct2 : Value}
    (a2 : PySem.W.nsIn K mainGlobals "is_span" = some (some (.ref f2))) (l2 : K.lookup f2 = some ⟨oc2, od2, .func (PySem.W.fnOf "is_span" "is_span" (defArgs s_is_span) (defBody s_is_span) (defScope s_is_span) .none kV2 dc2 pm2 an2 cd2 ct2), sl2⟩) (c2 : PySem.W.codeIn K cd2 "is_span" = true) (k2 : PySem.W.keepIn K (.ref f2) = true)
    {od3 an3 : Option Addr} {sl3 : Array (Option Value)} {oc3 kV3 dc3 pm3 cd3 ct3 : Value}
    (a3 : PySem.W.nsIn K mainGlobals "is_limit" = some (some (.ref f3))) (l3 : K.lookup f3 = some ⟨oc3, od3, .func (PySem.W.fnOf "is_limit" "is_limit" (defArgs s_is_limit) (defBody s_is_limit) (defScope s_is_limit) .none kV3 dc3 pm3 an3 cd3 ct3), sl3⟩) (c3 : PySem.W.codeIn K cd3 "is_limit" = true) (k3 : PySem.W.keepIn K (.ref f3) = true)
    {od4 an4 : Option Addr} {sl4 : Array (Option Value)} {oc4 kV4 dc4 pm4 cd4 ct4 : Value}
    (a4 : PySem.W.nsIn K mainGlobals "_law_cell" = some (some (.ref f4))) (l4 : K.lookup f4 = some ⟨oc4, od4, .func (PySem.W.fnOf "_law_cell" "_law_cell" (defArgs s_law_cell) (defBody s_law_cell) (defScope s_law_cell) .none kV4 dc4 pm4 an4 cd4 ct4), sl4⟩) (c4 : PySem.W.codeIn K cd4 "_law_cell" = true) (k4 : PySem.W.keepIn K (.ref f4) = true)
    {od5 an5 : Option Addr} {sl5 : Array (Option Value)} {oc5 kV5 dc5 pm5 cd5 ct5 : Value}
    (a5 : PySem.W.nsIn K mainGlobals "_law_box" = some (some (.ref f5))) (l5 : K.lookup f5 = some ⟨oc5, od5, .func (PySem.W.fnOf "_law_box" "_law_box" (defArgs s_law_box) (defBody s_law_box) (defScope s_law_box) .none kV5 dc5 pm5 an5 cd5 ct5), sl5⟩) (c5 : PySem.W.codeIn K cd5 "_law_box" = true) (k5 : PySem.W.keepIn K (.ref f5) = true)
    {od6 an6 : Option Addr} {sl6 : Array (Option Value)} {oc6 kV6 dc6 pm6 cd6 ct6 : Value}
    (a6 : PySem.W.nsIn K mainGlobals "_law_take" = some (some (.ref f6))) (l6 : K.lookup f6 = some ⟨oc6, od6, .func (PySem.W.fnOf "_law_take" "_law_take" (defArgs s_law_take) (defBody s_law_take) (defScope s_law_take) .none kV6 dc6 pm6 an6 cd6 ct6), sl6⟩) (c6 : PySem.W.codeIn K cd6 "_law_take" = true) (k6 : PySem.W.keepIn K (.ref f6) = true)
    {od7 an7 : Option Addr} {sl7 : Array (Option Value)} {oc7 kV7 dc7 pm7 cd7 ct7 : Value}
    (a7 : PySem.W.nsIn K mainGlobals "_law_is_integer" = some (some (.ref f7))) (l7 : K.lookup f7 = some ⟨oc7, od7, .func (PySem.W.fnOf "_law_is_integer" "_law_is_integer" (defArgs s_law_is_integer) (defBody s_law_is_integer) (defScope s_law_is_integer) .none kV7 dc7 pm7 an7 cd7 ct7), sl7⟩) (c7 : PySem.W.codeIn K cd7 "_law_is_integer" = true) (k7 : PySem.W.keepIn K (.ref f7) = true)
    {od8 an8 : Option Addr} {sl8 : Array (Option Value)} {oc8 kV8 dc8 pm8 cd8 ct8 : Value}
    (a8 : PySem.W.nsIn K mainGlobals "_law_is_name" = some (some (.ref f8))) (l8 : K.lookup f8 = some ⟨oc8, od8, .func (PySem.W.fnOf "_law_is_name" "_law_is_name" (defArgs s_law_is_name) (defBody s_law_is_name) (defScope s_law_is_name) .none kV8 dc8 pm8 an8 cd8 ct8), sl8⟩) (c8 : PySem.W.codeIn K cd8 "_law_is_name" = true) (k8 : PySem.W.keepIn K (.ref f8) = true)
    {od9 an9 : Option Addr} {sl9 : Array (Option Value)} {oc9 kV9 dc9 pm9 cd9 ct9 : Value}
    (a9 : PySem.W.nsIn K mainGlobals "_law_is_span" = some (some (.ref f9))) (l9 : K.lookup f9 = some ⟨oc9, od9, .func (PySem.W.fnOf "_law_is_span" "_law_is_span" (defArgs s_law_is_span) (defBody s_law_is_span) (defScope s_law_is_span) .none kV9 dc9 pm9 an9 cd9 ct9), sl9⟩) (c9 : PySem.W.codeIn K cd9 "_law_is_span" = true) (k9 : PySem.W.keepIn K (.ref f9) = true)
    {od10 an10 : Option Addr} {sl10 : Array (Option Value)} {oc10 kV10 dc10 pm10 cd10 ct10 : Value}
    (a10 : PySem.W.nsIn K mainGlobals "_law_word" = some (some (.ref f10))) (l10 : K.lookup f10 = some ⟨oc10, od10, .func (PySem.W.fnOf "_law_word" "_law_word" (defArgs s_law_word) (defBody s_law_word) (defScope s_law_word) .none kV10 dc10 pm10 an10 cd10 ct10), sl10⟩) (c10 : PySem.W.codeIn K cd10 "_law_word" = true) (k10 : PySem.W.keepIn K (.ref f10) = true)
    {od11 an11 : Option Addr} {sl11 : Array (Option Value)} {oc11 kV11 dc11 pm11 cd11 ct11 : Value}
    (a11 : PySem.W.nsIn K mainGlobals "_law_limit" = some (some (.ref f11))) (l11 : K.lookup f11 = some ⟨oc11, od11, .func (PySem.W.fnOf "_law_limit" "_law_limit" (defArgs s_law_limit) (defBody s_law_limit) (defScope s_law_limit) .none kV11 dc11 pm11 an11 cd11 ct11), sl11⟩) (c11 : PySem.W.codeIn K cd11 "_law_limit" = true) (k11 : PySem.W.keepIn K (.ref f11) = true)
    {od12 an12 : Option Addr} {sl12 : Array (Option Value)} {oc12 kV12 dc12 pm12 cd12 ct12 : Value}
    (a12 : PySem.W.nsIn K mainGlobals "_law_value" = some (some (.ref f12))) (l12 : K.lookup f12 = some ⟨oc12, od12, .func (PySem.W.fnOf "_law_value" "_law_value" (defArgs s_law_value) (defBody s_law_value) (defScope s_law_value) .none kV12 dc12 pm12 an12 cd12 ct12), sl12⟩) (c12 : PySem.W.codeIn K cd12 "_law_value" = true) (k12 : PySem.W.keepIn K (.ref f12) = true)
    {od13 an13 : Option Addr} {sl13 : Array (Option Value)} {oc13 kV13 dc13 pm13 cd13 ct13 : Value}
    (a13 : PySem.W.nsIn K mainGlobals "law" = some (some (.ref f13))) (l13 : K.lookup f13 = some ⟨oc13, od13, .func (PySem.W.fnOf "law" "law" (defArgs s_law) (defBody s_law) (defScope s_law) .none kV13 dc13 pm13 an13 cd13 ct13), sl13⟩) (c13 : PySem.W.codeIn K cd13 "law" = true) (k13 : PySem.W.keepIn K (.ref f13) = true)
    {t_LONGEST_NAME : Tok} (v_LONGEST_NAME : PySem.W.nsIn K mainGlobals "LONGEST_NAME" = some (some (.int 8 t_LONGEST_NAME)))
    (z_isinstance : PySem.W.nsIn K mainGlobals "isinstance" = some none)
    (z_int : PySem.W.nsIn K mainGlobals "int" = some none)
    (z_bool : PySem.W.nsIn K mainGlobals "bool" = some none)
    (z_all : PySem.W.nsIn K mainGlobals "all" = some none)
    (z_str : PySem.W.nsIn K mainGlobals "str" = some none)
    (z_len : PySem.W.nsIn K mainGlobals "len" = some none)
    (z_tuple : PySem.W.nsIn K mainGlobals "tuple" = some none)
    (z_max : PySem.W.nsIn K mainGlobals "max" = some none)
    (z_range : PySem.W.nsIn K mainGlobals "range" = some none)
    (z_min : PySem.W.nsIn K mainGlobals "min" = some none)
    : ∃ fd : FuncData, (∀ (s : Shared) (v : Value), BindsTo s fd ⟨[v], []⟩ [("_law_script", v)]) ∧ ∀ base : Heap, K.In base → base.Ns mainGlobals mg → FnOk l.prog w K mg base CX0 4 fa fd ["_law_script"] (sp_law K) := by
  have e := hfa.symm.trans (PySem.W.mg_of X G a13)
  cases e
  let T : Txt K mg := {
    f_is_integer := f0, fd_is_integer := _, F_is_integer := fun_mk (st := s_is_integer) l0 c0 k0, b_is_integer := (fun_mk (st := s_is_integer) l0 c0 k0).binds (ps := ["value"]) fun _ _ _ _ _ _ us hl => match us, hl with | [_], _ => rfl, m_is_integer := PySem.W.mg_of X G a0,
    f_is_name := f1, fd_is_name := _, F_is_name := fun_mk (st := s_is_name) l1 c1 k1, b_is_name := (fun_mk (st := s_is_name) l1 c1 k1).binds (ps := ["value"]) fun _ _ _ _ _ _ us hl => match us, hl with | [_], _ => rfl, m_is_name := PySem.W.mg_of X G a1,
    f_is_span := f2, fd_is_span := _, F_is_span := fun_mk (st := s_is_span) l2 c2 k2, b_is_span := (fun_mk (st := s_is_span) l2 c2 k2).binds (ps := ["value"]) fun _ _ _ _ _ _ us hl => match us, hl with | [_], _ => rfl, m_is_span := PySem.W.mg_of X G a2,
    f_is_limit := f3, fd_is_limit := _, F_is_limit := fun_mk (st := s_is_limit) l3 c3 k3, b_is_limit := (fun_mk (st := s_is_limit) l3 c3 k3).binds (ps := ["value"]) fun _ _ _ _ _ _ us hl => match us, hl with | [_], _ => rfl, m_is_limit := PySem.W.mg_of X G a3,
    f_law_cell := f4, fd_law_cell := _, F_law_cell := fun_mk (st := s_law_cell) l4 c4 k4, b_law_cell := (fun_mk (st := s_law_cell) l4 c4 k4).binds (ps := ["_law_script", "_law_k"]) fun _ _ _ _ _ _ us hl => match us, hl with | [_, _], _ => rfl, m_law_cell := PySem.W.mg_of X G a4,
    f_law_box := f5, fd_law_box := _, F_law_box := fun_mk (st := s_law_box) l5 c5 k5, b_law_box := (fun_mk (st := s_law_box) l5 c5 k5).binds (ps := ["_law_cell_here"]) fun _ _ _ _ _ _ us hl => match us, hl with | [_], _ => rfl, m_law_box := PySem.W.mg_of X G a5,
    f_law_take := f6, fd_law_take := _, F_law_take := fun_mk (st := s_law_take) l6 c6 k6, b_law_take := (fun_mk (st := s_law_take) l6 c6 k6).binds (ps := ["_law_box_here", "_law_many"]) fun _ _ _ _ _ _ us hl => match us, hl with | [_, _], _ => rfl, m_law_take := PySem.W.mg_of X G a6,
    f_law_is_integer := f7, fd_law_is_integer := _, F_law_is_integer := fun_mk (st := s_law_is_integer) l7 c7 k7, b_law_is_integer := (fun_mk (st := s_law_is_integer) l7 c7 k7).binds (ps := ["_law_value_here"]) fun _ _ _ _ _ _ us hl => match us, hl with | [_], _ => rfl, m_law_is_integer := PySem.W.mg_of X G a7,
    f_law_is_name := f8, fd_law_is_name := _, F_law_is_name := fun_mk (st := s_law_is_name) l8 c8 k8, b_law_is_name := (fun_mk (st := s_law_is_name) l8 c8 k8).binds (ps := ["_law_value_here"]) fun _ _ _ _ _ _ us hl => match us, hl with | [_], _ => rfl, m_law_is_name := PySem.W.mg_of X G a8,
    f_law_is_span := f9, fd_law_is_span := _, F_law_is_span := fun_mk (st := s_law_is_span) l9 c9 k9, b_law_is_span := (fun_mk (st := s_law_is_span) l9 c9 k9).binds (ps := ["_law_value_here"]) fun _ _ _ _ _ _ us hl => match us, hl with | [_], _ => rfl, m_law_is_span := PySem.W.mg_of X G a9,
    f_law_word := f10, fd_law_word := _, F_law_word := fun_mk (st := s_law_word) l10 c10 k10, b_law_word := (fun_mk (st := s_law_word) l10 c10 k10).binds (ps := ["_law_box_here"]) fun _ _ _ _ _ _ us hl => match us, hl with | [_], _ => rfl, m_law_word := PySem.W.mg_of X G a10,
    f_law_limit := f11, fd_law_limit := _, F_law_limit := fun_mk (st := s_law_limit) l11 c11 k11, b_law_limit := (fun_mk (st := s_law_limit) l11 c11 k11).binds (ps := ["_law_box_here"]) fun _ _ _ _ _ _ us hl => match us, hl with | [_], _ => rfl, m_law_limit := PySem.W.mg_of X G a11,
    f_law_value := f12, fd_law_value := _, F_law_value := fun_mk (st := s_law_value) l12 c12 k12, b_law_value := (fun_mk (st := s_law_value) l12 c12 k12).binds (ps := ["_law_box_here"]) fun _ _ _ _ _ _ us hl => match us, hl with | [_], _ => rfl, m_law_value := PySem.W.mg_of X G a12,
    f_law := fa, fd_law := _, F_law := fun_mk (st := s_law) l13 c13 k13, b_law := (fun_mk (st := s_law) l13 c13 k13).binds (ps := ["_law_script"]) fun _ _ _ _ _ _ us hl => match us, hl with | [_], _ => rfl, m_law := PySem.W.mg_of X G a13,
    t_LONGEST_NAME := t_LONGEST_NAME, c_LONGEST_NAME := PySem.W.mg_of X G v_LONGEST_NAME,
    z_isinstance := PySem.W.mg_none_of X G z_isinstance,
    z_int := PySem.W.mg_none_of X G z_int,
    z_bool := PySem.W.mg_none_of X G z_bool,
    z_all := PySem.W.mg_none_of X G z_all,
    z_str := PySem.W.mg_none_of X G z_str,
    z_len := PySem.W.mg_none_of X G z_len,
    z_tuple := PySem.W.mg_none_of X G z_tuple,
    z_max := PySem.W.mg_none_of X G z_max,
    z_range := PySem.W.mg_none_of X G z_range,
    z_min := PySem.W.mg_none_of X G z_min }
  exact ⟨T.fd_law, fun s v => .of_eq rfl, fun base _ _ => ok_law T⟩
theorem walk {l : PySem.W.OpenLaw} {q : Program} {loose : List Str} {XP : (Str → Option Value) → Heap → Prop} {YP : World → Heap → Prop} {d : DefRec} {K : Params → PySem.W.Frag} (hn : l.most = some 63) (hdf : d.params.defaults = [])
    (hY : ∀ (w : World) (h : Heap), YP w h → (K w.params).In h)
    (F : ∀ (w : World) (mg : Str → Option Value) (fa : Addr) (h : Heap), (K w.params).In h → h.Ns mainGlobals mg → mg d.name = some (.ref fa) →
      ∃ fd : FuncData, (∀ (s : Shared) (u : Value), BindsTo s fd ⟨[u], []⟩ [("_law_script", u)]) ∧ ∀ base : Heap, (K w.params).In base → base.Ns mainGlobals mg → FnOk l.prog w (K w.params) mg base CX0 4 fa fd ["_law_script"] (sp_law (K w.params))) :
    PySem.W.WalkO q loose XP YP l.row.toRowW d [] (fun f vs => PySem.call f vs) :=
  L2.walk_of (n := 63) (k := 4) (x := "_law_script") (CX := fun _ => CX0) (sp := fun w => sp_law (K w.params)) hn (by decide) hdf ⟨rfl, by decide, by decide⟩ hY F (fun _ _ a ns hl _ hS => ⟨a, ns, rfl, hS, hl, fun _ => rfl⟩) fun _ _ _ _ _ z => z
end My
open PySem PySem.W PyProof.Rows
set_option maxRecDepth 100000 in
set_option maxHeartbeats 0 in
theorem PySem.Challenge.cw_hungparts_k01_kinds_of_values_holds : PySem.Challenge.rw_hungparts_k01_kinds_of_values.Holds := by
  w_on; o_law; k_head; (case hw => w_witness2)
  k_fill
  refine My.walk (l := PySem.Challenge.rw_hungparts_k01_kinds_of_values) rfl rfl (fun w h Y => PySem.W.kIn_of Y) ?F
  case F =>
    intro w mg fa h KX G hmg
    refine' My.all_mk KX G hmg ?a0 ?l0 ?c0 ?k0 ?a1 ?l1 ?c1 ?k1 ?a2 ?l2 ?c2 ?k2 ?a3 ?l3 ?c3 ?k3 ?a4 ?l4 ?c4 ?k4 ?a5 ?l5 ?c5 ?k5 ?a6 ?l6 ?c6 ?k6 ?a7 ?l7 ?c7 ?k7 ?a8 ?l8 ?c8 ?k8 ?a9 ?l9 ?c9 ?k9 ?a10 ?l10 ?c10 ?k10 ?a11 ?l11 ?c11 ?k11 ?a12 ?l12 ?c12 ?k12 ?a13 ?l13 ?c13 ?k13 ?v_LONGEST_NAME ?z_isinstance ?z_int ?z_bool ?z_all ?z_str ?z_len ?z_tuple ?z_max ?z_range ?z_min
    (case a0 => k_is)
    (case l0 => k_is)
    (case c0 => k_is)
    (case k0 => k_is)
    (case a1 => k_is)
    (case l1 => k_is)
    (case c1 => k_is)
    (case k1 => k_is)
    (case a2 => k_is)
    (case l2 => k_is)
    (case c2 => k_is)
    (case k2 => k_is)
    (case a3 => k_is)
    (case l3 => k_is)
    (case c3 => k_is)
    (case k3 => k_is)
    (case a4 => k_is)
    (case l4 => k_is)
    (case c4 => k_is)
    (case k4 => k_is)
    (case a5 => k_is)
    (case l5 => k_is)
    (case c5 => k_is)
    (case k5 => k_is)
    (case a6 => k_is)
    (case l6 => k_is)
    (case c6 => k_is)
    (case k6 => k_is)
    (case a7 => k_is)
    (case l7 => k_is)
    (case c7 => k_is)
    (case k7 => k_is)
    (case a8 => k_is)
    (case l8 => k_is)
    (case c8 => k_is)
    (case k8 => k_is)
    (case a9 => k_is)
    (case l9 => k_is)
    (case c9 => k_is)
    (case k9 => k_is)
    (case a10 => k_is)
    (case l10 => k_is)
    (case c10 => k_is)
    (case k10 => k_is)
    (case a11 => k_is)
    (case l11 => k_is)
    (case c11 => k_is)
    (case k11 => k_is)
    (case a12 => k_is)
    (case l12 => k_is)
    (case c12 => k_is)
    (case k12 => k_is)
    (case a13 => k_is)
    (case l13 => k_is)
    (case c13 => k_is)
    (case k13 => k_is)
    (case v_LONGEST_NAME => k_is)
    (case z_isinstance => k_is)
    (case z_int => k_is)
    (case z_bool => k_is)
    (case z_all => k_is)
    (case z_str => k_is)
    (case z_len => k_is)
    (case z_tuple => k_is)
    (case z_max => k_is)
    (case z_range => k_is)
    (case z_min => k_is)
#print axioms PySem.Challenge.cw_hungparts_k01_kinds_of_values_holds

