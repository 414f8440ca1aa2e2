import PyProof.Rows.All
import Wide.All
import OpenK.AllK
import Wide.FinOn
import HandS.ForMost
import HandS.ForExc
import HandS.ExcInit
import HandS.ExcField
import HandS.Star
import HandS.Defaults
import HandS.SetFor
import HandS.SetKeys
import HandS.IsInst
import HandS.Wide
import HandS.WideBits
import HandS.Conv
import HandS.DictComp
import HandS.Rev
import HandS.RevRange
import HandS.SortInts
import HandS.TupAny
import HandS.TupMul
import HandS.FStr
import HandS.Strs
import HandS.Flow
import KE.KIndexOf
import KE.SortData
import KE.GoesMore
import HandS.ExcIs
import HandS.WordsDict
import HandS.Deep
import HandS.TupSets
import HandS.Style
import PyProof.Rows.SeqMore
import KE.KRevSl
import HandS.List
import OpenK.KWalk
import PySem.Challenge.RW_listbylist_k09_whole_over_kept_and_carri
set_option Elab.async false
set_option linter.all false
set_option maxRecDepth 100000
set_option maxHeartbeats 4000000
namespace LK
open PySem PySem.Spec PyProof.Rows L2

/-! ### data as it stands in the heap, each tuple and list of at most 1000 -/
mutual
inductive Rp (K : PySem.W.Frag) (H : Hp) : V → PyData → Prop
  | non : Rp K H .non .none
  | bl (b : Bool) : Rp K H (.bl b) (.bool b)
  | int (i : Int) : Rp K H (.int i) (.int i)
  | str (x : Str) : Rp K H (.str x) (.str x)
  | lst {a : Addr} {xs : List V} {ds : List PyData} : SqL K H a xs → xs.length ≤ 1000 → RpAll K H xs ds → Rp K H (.ref a) (.list ds)
  | tup {a : Addr} {xs : List V} {ds : List PyData} : SqT K H a xs → xs.length ≤ 1000 → RpAll K H xs ds → Rp K H (.ref a) (.tuple ds)
inductive RpAll (K : PySem.W.Frag) (H : Hp) : List V → List PyData → Prop
  | nil : RpAll K H [] []
  | cons {v : V} {vs : List V} {d : PyData} {ds : List PyData} : Rp K H v d → RpAll K H vs ds → RpAll K H (v :: vs) (d :: ds)
end

theorem seqT {K : PySem.W.Frag} {H H' : Hp} {a : Addr} {xs : List V} (e : Same H H') (h : SqT K H a xs) : SqT K H' a xs := by
  rcases h with (h | ⟨o, h⟩) | h
  · exact .inl (.inl (e _ _ h))
  · exact .inl (.inr ⟨o, e _ _ h⟩)
  · exact .inr h
mutual
theorem Rp.same {K : PySem.W.Frag} {H H' : Hp} (e : Same H H') : ∀ {d : PyData} {v : V}, Rp K H v d → Rp K H' v d
  | .none, _, h => by cases h; exact .non
  | .bool b, _, h => by cases h; exact .bl b
  | .int i, _, h => by cases h; exact .int i
  | .str x, _, h => by cases h; exact .str x
  | .list ds, _, h => by
    cases h with
    | lst s l r => exact .lst (e.seq s) l (RpAll.same e r)
  | .tuple ds, _, h => by
    cases h with
    | tup s l r => exact .tup (seqT e s) l (RpAll.same e r)
  | .dict _, _, h => by cases h
theorem RpAll.same {K : PySem.W.Frag} {H H' : Hp} (e : Same H H') : ∀ {ds : List PyData} {vs : List V}, RpAll K H vs ds → RpAll K H' vs ds
  | [], _, h => by cases h; exact .nil
  | d :: ds, _, h => by
    cases h with
    | cons a b => exact .cons (Rp.same e a) (RpAll.same e b)
end
mutual
theorem Rp.dp {K : PySem.W.Frag} {H : Hp} : ∀ {d : PyData} {v : V}, Rp K H v d → Dp K H v d
  | .none, _, h => by cases h; exact .non
  | .bool b, _, h => by cases h; exact .bl b
  | .int i, _, h => by cases h; exact .int i
  | .str x, _, h => by cases h; exact .str x
  | .list ds, _, h => by
    cases h with
    | lst s l r => exact .lst s (RpAll.dp r)
  | .tuple ds, _, h => by
    cases h with
    | tup s l r => exact .tup s (RpAll.dp r)
  | .dict _, _, h => by cases h
theorem RpAll.dp {K : PySem.W.Frag} {H : Hp} : ∀ {ds : List PyData} {vs : List V}, RpAll K H vs ds → DpAll K H vs ds
  | [], _, h => by cases h; exact .nil
  | d :: ds, _, h => by
    cases h with
    | cons a b => exact .cons (Rp.dp a) (RpAll.dp b)
end
theorem RpAll.length {K : PySem.W.Frag} {H : Hp} : ∀ {ds : List PyData} {vs : List V}, RpAll K H vs ds → vs.length = ds.length
  | [], _, h => by cases h; rfl
  | d :: ds, _, h => by
    cases h with
    | cons a b => rw [List.length_cons, List.length_cons, RpAll.length b]
theorem RpAll.get {K : PySem.W.Frag} {H : Hp} : ∀ {ds : List PyData} {vs : List V} {i : Nat} {v : V}, RpAll K H vs ds → vs[i]? = some v → ∃ d, ds[i]? = some d ∧ Rp K H v d
  | [], _, i, v, h, e => by cases h; simp at e
  | d :: ds, _, 0, v, h, e => by
    cases h with
    | cons a b => simp at e; subst e; exact ⟨d, rfl, a⟩
  | d :: ds, _, i + 1, v, h, e => by
    cases h with
    | cons a b =>
      obtain ⟨d', h1, h2⟩ := RpAll.get (i := i) (v := v) b (by simpa using e)
      exact ⟨d', by simpa using h1, h2⟩
theorem RpAll.getD {K : PySem.W.Frag} {H : Hp} {ds : List PyData} {vs : List V} {i : Nat} {d : PyData} (h : RpAll K H vs ds) (e : ds[i]? = some d) : ∃ v, vs[i]? = some v ∧ Rp K H v d := by
  have hl := h.length
  have hi : i < vs.length := by rw [hl]; exact (List.getElem?_eq_some_iff.mp e).1
  obtain ⟨d', h1, h2⟩ := h.get (i := i) (v := vs[i]) (by simp [hi])
  rw [e] at h1
  cases h1
  exact ⟨_, by simp [hi], h2⟩
theorem RpAll.ints {K : PySem.W.Frag} {H : Hp} : ∀ (ns : List Int), RpAll K H (ns.map V.int) (ns.map PyData.int)
  | [] => .nil
  | n :: ns => .cons (.int n) (RpAll.ints ns)
theorem RpAll.ofInts {K : PySem.W.Frag} {H : Hp} : ∀ {ns : List Int} {vs : List V}, RpAll K H vs (ns.map PyData.int) → vs = ns.map V.int
  | [], _, h => by cases h; rfl
  | n :: ns, _, h => by
    cases h with
    | cons a b => cases a; rw [RpAll.ofInts b]; rfl
theorem RpAll.app {K : PySem.W.Frag} {H : Hp} : ∀ {ds es : List PyData} {vs ws : List V}, RpAll K H vs ds → RpAll K H ws es → RpAll K H (vs ++ ws) (ds ++ es)
  | [], _, _, _, .nil, g => g
  | _ :: _, _, _, _, .cons a b, g => .cons a (RpAll.app b g)

/-! ### what kind data is of -/
def tyN : PyData → String
  | .none => "NoneType"
  | .bool _ => "bool"
  | .int _ => "int"
  | .str _ => "str"
  | .list _ => "list"
  | .tuple _ => "tuple"
  | .dict _ => "dict"
theorem Rp.ty {K : PySem.W.Frag} {H : Hp} {v : V} {d : PyData} (h : Rp K H v d) : TyX K H v (.type (tyN d)) := by
  cases h with
  | non => exact .base .non
  | bl b => exact .base (.bl b)
  | int i => exact .base (.int i)
  | str x => exact .base (.str x)
  | lst s l r =>
    rcases s with (s | ⟨o, s⟩) | ⟨o, its, n, s, c, _⟩
    · exact .base (.lst s)
    · exact .base (.frz s)
    · exact .kList s c
  | tup s l r =>
    rcases s with (s | ⟨o, s⟩) | ⟨o, its, n, s, c, _⟩
    · exact .base (.tup s)
    · exact .fTuple s
    · exact .kTuple s c
def isIntB : PyData → Bool
  | .int _ => true
  | .bool _ => true
  | _ => false
def isBoolB : PyData → Bool
  | .bool _ => true
  | _ => false
def isStrB : PyData → Bool
  | .str _ => true
  | _ => false
def isTupB : PyData → Bool
  | .tuple _ => true
  | _ => false
theorem isi_int {K : PySem.W.Frag} {H : Hp} {v : V} {d : PyData} (h : Rp K H v d) : PySem.W.kitOne K (.type (tyN d)) (.type "int") = some (isIntB d) := by
  cases h <;> (refine kit_ty ?_; simp only [tyN, isIntB, isBoolB, isStrB, isTupB]; decide +kernel)
theorem isi_bool {K : PySem.W.Frag} {H : Hp} {v : V} {d : PyData} (h : Rp K H v d) : PySem.W.kitOne K (.type (tyN d)) (.type "bool") = some (isBoolB d) := by
  cases h <;> (refine kit_ty ?_; simp only [tyN, isIntB, isBoolB, isStrB, isTupB]; decide +kernel)
theorem isi_str {K : PySem.W.Frag} {H : Hp} {v : V} {d : PyData} (h : Rp K H v d) : PySem.W.kitOne K (.type (tyN d)) (.type "str") = some (isStrB d) := by
  cases h <;> (refine kit_ty ?_; simp only [tyN, isIntB, isBoolB, isStrB, isTupB]; decide +kernel)
theorem isi_tuple {K : PySem.W.Frag} {H : Hp} {v : V} {d : PyData} (h : Rp K H v d) : PySem.W.kitOne K (.type (tyN d)) (.type "tuple") = some (isTupB d) := by
  cases h <;> (refine kit_ty ?_; simp only [tyN, isIntB, isBoolB, isStrB, isTupB]; decide +kernel)

/-! ### the mirror of kinds -/
def isInteger : PyData → Bool
  | .int _ => true
  | _ => false
def isNumber : PyData → Bool
  | .int i => decide (0 ≤ i)
  | _ => false
def isBelow (n : Int) : PyData → Bool
  | .int i => decide (0 ≤ i ∧ i < n)
  | _ => false
def rising : List Int → Bool
  | [] => true
  | [_] => true
  | a :: b :: r => decide (a < b) && rising (b :: r)
def areBelow (n : Int) : PyData → Bool
  | .tuple ds => ds.all (isBelow n)
  | _ => false
/-- the dInts of a tuple of dInts -/
def toInt : PyData → Int
  | .int i => i
  | _ => 0
def dInts : PyData → List Int
  | .tuple ds => ds.map toInt
  | _ => []
def isLot (n : Int) (d : PyData) : Bool := areBelow n d && rising (dInts d)
def areUnlike (n : Int) (d : PyData) : Bool := areBelow n d && decide (dInts d).Nodup
def isLine (n : Int) (d : PyData) : Bool := areUnlike n d && decide (((dInts d).length : Int) = n)
def dTup (ns : List Int) : PyData := .tuple (ns.map .int)
theorem dInts_tup (ns : List Int) : dInts (dTup ns) = ns := by
  unfold dInts dTup
  simp only [List.map_map]
  exact (List.map_congr_left fun i _ => rfl).trans (List.map_id ns)
theorem ints_all {n : Int} : ∀ {ds : List PyData}, ds.all (isBelow n) = true → ds = (ds.map toInt).map PyData.int
  | [], _ => rfl
  | d :: ds, h => by
    rw [List.all_cons, Bool.and_eq_true] at h
    obtain ⟨h1, h2⟩ := h
    cases d with
    | int i => rw [List.map_cons, List.map_cons, ← ints_all h2]; rfl
    | _ => exact absurd h1 (by simp [isBelow])
theorem areBelow_tup {n : Int} {d : PyData} (h : areBelow n d = true) : d = dTup (dInts d) := by
  cases d with
  | tuple ds => unfold dTup dInts; rw [← ints_all (n := n) h]
  | _ => exact absurd h (by simp [areBelow])
/-- a tuple of dInts, as it stands -/
def TupI (K : PySem.W.Frag) (H : Hp) (a : Addr) (ns : List Int) : Prop := SqT K H a (ns.map V.int) ∧ ns.length ≤ 1000
theorem TupI.rp {K : PySem.W.Frag} {H : Hp} {a : Addr} {ns : List Int} (h : TupI K H a ns) : Rp K H (.ref a) (dTup ns) := .tup h.1 (by rw [List.length_map]; exact h.2) (RpAll.ints ns)
theorem TupI.same {K : PySem.W.Frag} {H H' : Hp} {a : Addr} {ns : List Int} (e : Same H H') (h : TupI K H a ns) : TupI K H' a ns := ⟨seqT e h.1, h.2⟩
theorem Rp.tupI {K : PySem.W.Frag} {H : Hp} {v : V} {ns : List Int} (h : Rp K H v (dTup ns)) : ∃ a, v = .ref a ∧ TupI K H a ns := by
  generalize hd : dTup ns = d at h
  cases h with
  | @tup a xs ds s l r =>
    have e : ds = ns.map PyData.int := by
      unfold dTup at hd
      injection hd with hd
      exact hd.symm
    subst e
    have ex := r.ofInts
    subst ex
    exact ⟨a, rfl, s, by rw [List.length_map] at l; exact l⟩
  | _ => exact absurd hd (by simp [dTup])
theorem same_upd {H : Hp} {p : Addr} {o : HO} (n : H p = none) : Same H (upd H p o) := fun b u e => by rw [upd_ne (ne_of_none e n)]; exact e
theorem small_line {n : Nat} (h : n ≤ 1000) : n < sizeLine := small1000 h
/-- a list that is being filled by a comprehension: what stood ahead stands, at D the values so far -/
def Fill (H : Hp) (D : Addr) (H' : Hp) (xs : List V) : Prop := Same H H' ∧ H' D = some (.lst xs)
theorem Fill.start {H : Hp} {D : Addr} (n : H D = none) : Fill H D (upd H D (.lst [])) [] := ⟨same_upd n, upd_same⟩
theorem Fill.push {H H1 H2 : Hp} {D : Addr} {xs : List V} {y : V} (n : H D = none) (f : Fill H D H1 xs) (s : Same H1 H2) : Fill H D (upd H2 D (.lst (xs ++ [y]))) (xs ++ [y]) :=
  ⟨fun b o e => by rw [upd_ne (ne_of_none e n)]; exact s _ _ (f.1 _ _ e), upd_same⟩
theorem Fill.at {H H1 H2 : Hp} {D : Addr} {xs : List V} (f : Fill H D H1 xs) (s : Same H1 H2) : H2 D = some (.lst xs) := s _ _ f.2

/-! ### promises of kinds -/
section
variable (K : PySem.W.Frag)
def spB1 (g : PyData → Bool) : Sp := fun vs H Q _ => ∃ v d, vs = [v] ∧ Rp K H v d ∧ Q (.bl (g d)) H
def spIB0 (g : Int → PyData → Bool) : Sp := fun vs H Q _ => ∃ n v d, vs = [.int n, v] ∧ Rp K H v d ∧ Q (.bl (g n d)) H
def spIB (g : Int → PyData → Bool) : Sp := fun vs H Q _ => ∃ n v d, vs = [.int n, v] ∧ Rp K H v d ∧ ∀ H', Same H H' → Q (.bl (g n d)) H'
def spRising : Sp := fun vs H Q _ => ∃ a ns, vs = [.ref a] ∧ TupI K H a ns ∧ ∀ H', Same H H' → Q (.bl (rising ns)) H'
end

/-! ### the layer's rules with the written part named (within a comprehension the reading must not speak of the block) -/
section
variable {X : Cx}
def rLenS (K : PySem.W.Frag) : List V → Hp → VK → Prop := fun xs H Q => ∃ p ys, xs = [.ref p] ∧ (SqL K H p ys ∨ SqT K H p ys) ∧ Q (.int (ys.length : Nat)) H
def rTupOf (K : PySem.W.Frag) : List V → Hp → VK → Prop := fun xs H Q => ∃ p ys, xs = [.ref p] ∧ ((SqL K H p ys ∧ ∀ l, H l = none → Q (.ref l) (upd H l (.tup ys))) ∨ (SqT K H p ys ∧ Q (.ref p) H))
def rLstOf (K : PySem.W.Frag) : List V → Hp → VK → Prop := fun xs H Q => ∃ p ys, xs = [.ref p] ∧ (SqL K H p ys ∨ SqT K H p ys) ∧ ∀ l, H l = none → Q (.ref l) (upd H l (.lst ys))
theorem ixT (K : PySem.W.Frag) (h : X.K = K := by rfl) : IxR X (rIxT K) := h ▸ ix_tup
theorem ixL (K : PySem.W.Frag) (h : X.K = K := by rfl) : IxR X (rIxL K) := h ▸ ix_list
theorem inS (K : PySem.W.Frag) (h : X.K = K := by rfl) : OpR X (compareOp .In) (rIn K false) := h ▸ op_in_seq
theorem notInS (K : PySem.W.Frag) (h : X.K = K := by rfl) : OpR X (compareOp .NotIn) (rIn K true) := h ▸ op_notIn_seq
theorem lenS (K : PySem.W.Frag) (h : X.K = K := by rfl) : CallR X (.builtin "len") (rLenS K) := h ▸ call_len_seq
theorem slA (K : PySem.W.Frag) (h : X.K = K := by rfl) : SlR X (rSlA K) := h ▸ sl_tupA
theorem slL (K : PySem.W.Frag) (h : X.K = K := by rfl) : SlR X (rSlL K) := h ▸ sl_list
theorem allR (K : PySem.W.Frag) (hc : X.calm = true := by rfl) (h : X.K = K := by rfl) : CallR X (.builtin "all") (rAll K) := h ▸ cr_all hc
theorem anyR (K : PySem.W.Frag) (hc : X.calm = true := by rfl) (h : X.K = K := by rfl) : CallR X (.builtin "any") (rAny K) := h ▸ cr_any hc
theorem sumR (K : PySem.W.Frag) (hc : X.calm = true := by rfl) (h : X.K = K := by rfl) : CallR X (.builtin "sum") (rSum K) := h ▸ cr_sum hc
theorem isiR (K : PySem.W.Frag) (h : X.K = K := by rfl) : CallR X (.builtin "isinstance") (rIsi K) := h ▸ call_isi
theorem tupOf (K : PySem.W.Frag) (h : X.K = K := by rfl) : CallR X (.type "tuple") (rTupOf K) := h ▸ call_tuple_of
theorem lstOf (K : PySem.W.Frag) (h : X.K = K := by rfl) : CallR X (.type "list") (rLstOf K) := h ▸ call_list_of
theorem srtI (K : PySem.W.Frag) (h : X.K = K := by rfl) : CallR X (.builtin "sorted") (rSortedI K) := h ▸ cr_sortedI
theorem mtIndex (K : PySem.W.Frag) (h : X.K = K := by rfl) : MtR X "list.index" (rIndex K) := h ▸ mt_index
theorem piT (K : PySem.W.Frag) {tg l : Expr} {tl : TE} (hl : PE X l tl) (h : X.K = K := by rfl) : PI X tg l (iTup K tl) := h ▸ pi_tup hl
theorem piL (K : PySem.W.Frag) {tg l : Expr} {tl : TE} (hl : PE X l tl) (h : X.K = K := by rfl) : PI X tg l (iList K tl) := h ▸ pi_list hl
end

/-! ### data without lists stands, whatever a list becomes -/
mutual
def noL : PyData → Bool
  | .list _ => false
  | .tuple ds => noLs ds
  | _ => true
def noLs : List PyData → Bool
  | [] => true
  | d :: ds => noL d && noLs ds
end
theorem all_noL : ∀ {ds : List PyData}, (∀ d ∈ ds, noL d = true) → noLs ds = true
  | [], _ => rfl
  | d :: ds, h => by
    unfold noLs
    rw [h d (by simp), all_noL fun e he => h e (by simp [he])]
    rfl
mutual
theorem Rp.upd {K : PySem.W.Frag} {H : Hp} {D : Addr} {zs : List V} {o : HO} (hD : H D = some (.lst zs)) : ∀ {d : PyData} {v : V}, noL d = true → Rp K H v d → Rp K (L2.upd H D o) v d
  | .none, _, _, h => by cases h; exact .non
  | .bool b, _, _, h => by cases h; exact .bl b
  | .int i, _, _, h => by cases h; exact .int i
  | .str x, _, _, h => by cases h; exact .str x
  | .list ds, _, n, h => by simp [noL] at n
  | .tuple ds, _, n, h => by
    cases h with
    | tup s l r =>
      refine .tup ?_ l (RpAll.upd hD (by simpa [noL] using n) r)
      rcases s with (s | ⟨u, s⟩) | s
      · exact .inl (.inl (by rw [upd_ne (ne_of s hD (by intro z; cases z))]; exact s))
      · exact .inl (.inr ⟨u, by rw [upd_ne (ne_of s hD (by intro z; cases z))]; exact s⟩)
      · exact .inr s
  | .dict _, _, _, h => by cases h
theorem RpAll.upd {K : PySem.W.Frag} {H : Hp} {D : Addr} {zs : List V} {o : HO} (hD : H D = some (.lst zs)) : ∀ {ds : List PyData} {vs : List V}, noLs ds = true → RpAll K H vs ds → RpAll K (L2.upd H D o) vs ds
  | [], _, _, h => by cases h; exact .nil
  | d :: ds, _, n, h => by
    unfold noLs at n
    rw [Bool.and_eq_true] at n
    cases h with
    | cons a b => exact .cons (Rp.upd hD n.1 a) (RpAll.upd hD n.2 b)
end
/-! ### comprehensions whose elements are data without lists: over a tuple, a list, a range -/

theorem lcT {K : PySem.W.Frag} {a : Addr} {xs : List V} {g : TG} {tt : TT} {te : TE} {vs : List Nat} {σ : L2.St} {H : Hp} {D : Addr} {Qd : Hp → Prop} (p : Nat → Bool) (f : Nat → PyData) (hD : H D = none) (hx : SqT K H a xs) (hz : xs.length ≤ 1000) (hf : ∀ i, i < xs.length → p i = true → noL (f i) = true)
    (hs : ∀ (i : Nat) (x : V) (H1 : Hp), xs[i]? = some x → Same H H1 → ∀ (Q : VK) (Q' : Hp → Prop), (p i = true → ∀ y H2, Same H1 H2 → Rp K H2 y (f i) → Q y H2) → (p i = false → ∀ H2, Same H1 H2 → Q' H2) →
      g x (wipe σ vs) H1 fun σ2 H2 => wipe σ2 vs = wipe σ vs ∧ tt σ2 H2 fun b H3 => if b = true then te σ2 H3 Q else Q' H3)
    (hd : ∀ ys H1, Same H H1 → H1 D = some (.lst ys) → RpAll K H1 ys (((List.range xs.length).filter p).map f) → Qd H1) :
    ∃ W : Nat → Nat → Hp → Prop, (∃ m, W 0 m (upd H D (.lst []))) ∧ ∀ i m H, W i m H →
      ((Itt K a).stop i H ∧ Qd H) ∨ ((Itt K a).go i H ∧ ∃ Nx : Hp → Prop, (∀ H', Nx H' → ∃ m', m' < m ∧ W (i + 1) m' H') ∧ ∀ x H', (Itt K a).yld i H x H' → g x (wipe σ vs) H' fun σ2 H2 => wipe σ2 vs = wipe σ vs ∧ tt σ2 H2 fun b H3 =>
        if b = true then te σ2 H3 fun y H4 => ∃ acc, H4 D = some (.lst acc) ∧ acc.length < sizeLine ∧ Nx (upd H4 D (.lst (acc ++ [y]))) else Nx H3) := by
  refine lc_tup (fun i H1 => ∃ ys, Fill H D H1 ys ∧ RpAll K H1 ys (((List.range i).filter p).map f) ∧ ys.length ≤ i) ⟨[], Fill.start hD, .nil, Nat.le_refl _⟩ (fun i H1 _ ⟨ys, fl, _⟩ => seqT fl.1 hx)
    (fun i x H1 hi ⟨ys, fl, r, hy⟩ => ?_) (fun H1 ⟨ys, fl, r, hy⟩ => hd ys H1 fl.1 fl.2 r)
  have hlt : i < xs.length := (List.getElem?_eq_some_iff.mp hi).1
  refine hs i x H1 hi fl.1 _ _ (fun hp y H2 s2 ry => ⟨ys, fl.at s2, small1000 (by omega), ys ++ [y], fl.push hD s2, ?_, by rw [List.length_append, List.length_singleton]; omega⟩) (fun hp H2 s2 => ⟨ys, ⟨fl.1.trans s2, s2 _ _ fl.2⟩, ?_, by omega⟩)
  · rw [List.range_succ, List.filter_append, List.map_append]
    have e1 : ([i].filter p) = [i] := by simp [hp]
    rw [e1]
    refine RpAll.upd (fl.at s2) (all_noL fun d hd2 => ?_) ((r.same s2).app (.cons ry .nil))
    rcases List.mem_append.mp hd2 with z | z
    · obtain ⟨j, hj, rfl⟩ := List.mem_map.mp z
      have hj2 := List.mem_filter.mp hj
      exact hf j (by have := List.mem_range.mp hj2.1; omega) hj2.2
    · rw [List.map_cons, List.map_nil, List.mem_singleton] at z
      subst z
      exact hf i hlt hp
  · rw [List.range_succ, List.filter_append]
    have e1 : ([i].filter p) = [] := by simp [hp]
    rw [e1, List.append_nil]
    exact r.same s2

theorem lcL {K : PySem.W.Frag} {a : Addr} {xs : List V} {g : TG} {tt : TT} {te : TE} {vs : List Nat} {σ : L2.St} {H : Hp} {D : Addr} {Qd : Hp → Prop} (p : Nat → Bool) (f : Nat → PyData) (hD : H D = none) (hx : SqL K H a xs) (hz : xs.length ≤ 1000) (hf : ∀ i, i < xs.length → p i = true → noL (f i) = true)
    (hs : ∀ (i : Nat) (x : V) (H1 : Hp), xs[i]? = some x → Same H H1 → ∀ (Q : VK) (Q' : Hp → Prop), (p i = true → ∀ y H2, Same H1 H2 → Rp K H2 y (f i) → Q y H2) → (p i = false → ∀ H2, Same H1 H2 → Q' H2) →
      g x (wipe σ vs) H1 fun σ2 H2 => wipe σ2 vs = wipe σ vs ∧ tt σ2 H2 fun b H3 => if b = true then te σ2 H3 Q else Q' H3)
    (hd : ∀ ys H1, Same H H1 → H1 D = some (.lst ys) → RpAll K H1 ys (((List.range xs.length).filter p).map f) → Qd H1) :
    ∃ W : Nat → Nat → Hp → Prop, (∃ m, W 0 m (upd H D (.lst []))) ∧ ∀ i m H, W i m H →
      ((Itl K a).stop i H ∧ Qd H) ∨ ((Itl K a).go i H ∧ ∃ Nx : Hp → Prop, (∀ H', Nx H' → ∃ m', m' < m ∧ W (i + 1) m' H') ∧ ∀ x H', (Itl K a).yld i H x H' → g x (wipe σ vs) H' fun σ2 H2 => wipe σ2 vs = wipe σ vs ∧ tt σ2 H2 fun b H3 =>
        if b = true then te σ2 H3 fun y H4 => ∃ acc, H4 D = some (.lst acc) ∧ acc.length < sizeLine ∧ Nx (upd H4 D (.lst (acc ++ [y]))) else Nx H3) := by
  refine lc_list (fun i H1 => ∃ ys, Fill H D H1 ys ∧ RpAll K H1 ys (((List.range i).filter p).map f) ∧ ys.length ≤ i) ⟨[], Fill.start hD, .nil, Nat.le_refl _⟩ (fun i H1 _ ⟨ys, fl, _⟩ => fl.1.seq hx)
    (fun i x H1 hi ⟨ys, fl, r, hy⟩ => ?_) (fun H1 ⟨ys, fl, r, hy⟩ => hd ys H1 fl.1 fl.2 r)
  have hlt : i < xs.length := (List.getElem?_eq_some_iff.mp hi).1
  refine hs i x H1 hi fl.1 _ _ (fun hp y H2 s2 ry => ⟨ys, fl.at s2, small1000 (by omega), ys ++ [y], fl.push hD s2, ?_, by rw [List.length_append, List.length_singleton]; omega⟩) (fun hp H2 s2 => ⟨ys, ⟨fl.1.trans s2, s2 _ _ fl.2⟩, ?_, by omega⟩)
  · rw [List.range_succ, List.filter_append, List.map_append]
    have e1 : ([i].filter p) = [i] := by simp [hp]
    rw [e1]
    refine RpAll.upd (fl.at s2) (all_noL fun d hd2 => ?_) ((r.same s2).app (.cons ry .nil))
    rcases List.mem_append.mp hd2 with z | z
    · obtain ⟨j, hj, rfl⟩ := List.mem_map.mp z
      have hj2 := List.mem_filter.mp hj
      exact hf j (by have := List.mem_range.mp hj2.1; omega) hj2.2
    · rw [List.map_cons, List.map_nil, List.mem_singleton] at z
      subst z
      exact hf i hlt hp
  · rw [List.range_succ, List.filter_append]
    have e1 : ([i].filter p) = [] := by simp [hp]
    rw [e1, List.append_nil]
    exact r.same s2

theorem lcR {K : PySem.W.Frag} {lo : Int} {n : Nat} {g : TG} {tt : TT} {te : TE} {vs : List Nat} {σ : L2.St} {H : Hp} {D : Addr} {Qd : Hp → Prop} (p : Nat → Bool) (f : Nat → PyData) (hD : H D = none)  (hz : n ≤ 1000) (hf : ∀ i, i < n → p i = true → noL (f i) = true)
    (hs : ∀ (i : Nat)  (H1 : Hp), i < n → Same H H1 → ∀ (Q : VK) (Q' : Hp → Prop), (p i = true → ∀ y H2, Same H1 H2 → Rp K H2 y (f i) → Q y H2) → (p i = false → ∀ H2, Same H1 H2 → Q' H2) →
      g (.int (lo + i)) (wipe σ vs) H1 fun σ2 H2 => wipe σ2 vs = wipe σ vs ∧ tt σ2 H2 fun b H3 => if b = true then te σ2 H3 Q else Q' H3)
    (hd : ∀ ys H1, Same H H1 → H1 D = some (.lst ys) → RpAll K H1 ys (((List.range n).filter p).map f) → Qd H1) :
    ∃ W : Nat → Nat → Hp → Prop, (∃ m, W 0 m (upd H D (.lst []))) ∧ ∀ i m H, W i m H →
      ((Itr lo n).stop i H ∧ Qd H) ∨ ((Itr lo n).go i H ∧ ∃ Nx : Hp → Prop, (∀ H', Nx H' → ∃ m', m' < m ∧ W (i + 1) m' H') ∧ ∀ x H', (Itr lo n).yld i H x H' → g x (wipe σ vs) H' fun σ2 H2 => wipe σ2 vs = wipe σ vs ∧ tt σ2 H2 fun b H3 =>
        if b = true then te σ2 H3 fun y H4 => ∃ acc, H4 D = some (.lst acc) ∧ acc.length < sizeLine ∧ Nx (upd H4 D (.lst (acc ++ [y]))) else Nx H3) := by
  refine lc_range (fun i H1 => ∃ ys, Fill H D H1 ys ∧ RpAll K H1 ys (((List.range i).filter p).map f) ∧ ys.length ≤ i) ⟨[], Fill.start hD, .nil, Nat.le_refl _⟩ 
    (fun i  H1 hi ⟨ys, fl, r, hy⟩ => ?_) (fun H1 ⟨ys, fl, r, hy⟩ => hd ys H1 fl.1 fl.2 r)
  have hlt : i < n := hi
  refine hs i  H1 hi fl.1 _ _ (fun hp y H2 s2 ry => ⟨ys, fl.at s2, small1000 (by omega), ys ++ [y], fl.push hD s2, ?_, by rw [List.length_append, List.length_singleton]; omega⟩) (fun hp H2 s2 => ⟨ys, ⟨fl.1.trans s2, s2 _ _ fl.2⟩, ?_, by omega⟩)
  · rw [List.range_succ, List.filter_append, List.map_append]
    have e1 : ([i].filter p) = [i] := by simp [hp]
    rw [e1]
    refine RpAll.upd (fl.at s2) (all_noL fun d hd2 => ?_) ((r.same s2).app (.cons ry .nil))
    rcases List.mem_append.mp hd2 with z | z
    · obtain ⟨j, hj, rfl⟩ := List.mem_map.mp z
      have hj2 := List.mem_filter.mp hj
      exact hf j (by have := List.mem_range.mp hj2.1; omega) hj2.2
    · rw [List.map_cons, List.map_nil, List.mem_singleton] at z
      subst z
      exact hf i hlt hp
  · rw [List.range_succ, List.filter_append]
    have e1 : ([i].filter p) = [] := by simp [hp]
    rw [e1, List.append_nil]
    exact r.same s2

theorem RpAll.ofBools {K : PySem.W.Frag} {H : Hp} : ∀ {bs : List Bool} {vs : List V}, RpAll K H vs (bs.map PyData.bool) → vs = bs.map V.bl
  | [], _, h => by cases h; rfl
  | b :: bs, _, h => by
    cases h with
    | cons a r => cases a; rw [RpAll.ofBools r]; rfl
theorem filter_true {α : Type} (l : List α) : l.filter (fun _ => true) = l := List.filter_eq_self.mpr fun _ _ => rfl

theorem mapD {ns : List Int} {i : Nat} (h : i < ns.length) : (ns.map V.int)[i]? = some (.int (ns.getD i 0)) := by
  rw [List.getElem?_map, List.getElem?_eq_getElem h, List.getD_eq_getElem?_getD, List.getElem?_eq_getElem h]
  rfl
theorem range_succ_map {α : Type} (f : Nat → α) (n : Nat) : (List.range (n + 1)).map f = f 0 :: (List.range n).map fun j => f (j + 1) := by
  rw [List.range_succ_eq_map, List.map_cons, List.map_map]
  rfl
theorem all_range {α : Type} (p : α → Bool) (z : α) : ∀ l : List α, ((List.range l.length).map fun j => p (l.getD j z)).all id = l.all p
  | [] => rfl
  | x :: l => by
    rw [List.length_cons, range_succ_map, List.all_cons, List.all_cons, ← all_range p z l]
    rfl
theorem rising_all : ∀ ns : List Int, ((List.range (ns.length - 1)).map fun j => decide (ns.getD j 0 < ns.getD (j + 1) 0)).all id = rising ns
  | [] => rfl
  | [_] => rfl
  | a :: b :: r => by
    have ih := rising_all (b :: r)
    have e : (a :: b :: r).length - 1 = ((b :: r).length - 1) + 1 := by simp
    rw [e, range_succ_map, List.all_cons]
    show (decide (a < b) && _) = (decide (a < b) && rising (b :: r))
    rw [← ih]
    rfl
end LK
namespace LK
open PySem PySem.Spec PyProof.Rows L2
/-! ### tuple.index of ints -/
def rTIdx (K : PySem.W.Frag) : V → List V → Hp → VK → Prop := fun x xs H Q => ∃ (a : Addr) (ns : List Int) (k : Int), x = V.ref a ∧ xs = [.int k] ∧ SqT K H a (ns.map V.int) ∧ k ∈ ns ∧ Q (.int (ns.idxOf k : Nat)) H
theorem mt_tidx {X : Cx} (K : PySem.W.Frag) (hK : X.K = K := by rfl) : MtR X "tuple.index" (rTIdx K) := by
  subst hK
  intro pins s σ H x xs v us Q I rx rxs h
  obtain ⟨a, ns, k, rfl, rfl, hq, hk, q⟩ := h
  obtain ⟨its, rv, pl, hz⟩ := I.tuple hq
  cases rx
  cases rxs with
  | cons r rr =>
    cases rr
    obtain ⟨t, rfl⟩ := r
    exact PySem.SeqAt.tuple_index_ints (s := s) pl rv.ints hk ⟨.int (ns.idxOf k : Nat), H, I.tok _, ⟨_, rfl⟩, q⟩
/-! ### sorted(tuple of ints) -/
section
variable {prog : Program} {w : World} {A : Around} {E : Value → Shared → Prop} {s : Shared}
theorem collect_tup {l : Addr} {vs : List Value} {Q : List Value → Shared → Prop} (hl : s.heap.IsTuple l vs.toArray)
    (h : Q vs { s with heap := (s.heap.push (seqObj "list" #[] 0)).update s.heap.objs.size (Obj.mapSeq (· ++ vs.toArray)) }) (hsz : vs.length ≤ sizeLine := by size_fits) :
    wpAny (model prog w) A (collect (.ref l)) Q E s := by
  obtain ⟨o, ho, hc, n, hd⟩ := id hl
  unfold collect
  refine wpAny_bind (wpAny_runValue (codeAny_builtin entry_proto_collect' ?_))
  show wpAny _ _ (do again (.builtin "list.__iadd__" ⟨[← newList [], .ref l], []⟩)) _ _ s
  refine wpAny_bind (wpAny_newList (wpAny_pure ⟨Code.quiet_builtin _ (by decide +kernel), codeAny_builtin entry_list_iadd' ?_⟩))
  show wpAny _ _ (Builtin.List.listExtendWith (.ref s.heap.objs.size) (.ref l) (.ref s.heap.objs.size)) _ _ { s with heap := s.heap.push (seqObj "list" #[] 0) }
  unfold Builtin.List.listExtendWith
  have ho' : (s.heap.push (seqObj "list" #[] 0)).get? l = some o := Heap.get?_push_of_some _ ho
  refine wpAny_bind (wpAny_typeOf (T := "tuple") ⟨o, ho', hc⟩ ?_)
  have ht : (Value.type "tuple" == Value.type "tuple") = true := by rfl
  rw [if_pos (by rw [ht]; simp)]
  refine wpAny_bind (listItems_at ho' hd ?_)
  refine wpAny_bind (listItems_at (xs := #[]) (n := 0) (Heap.get?_push_size _ rfl) rfl ?_)
  rw [if_neg (by simp)]
  refine wpAny_bind (listUpdate_at (xs := #[]) (n := 0) (Heap.get?_push_size _ rfl) rfl ?_ (Nat.zero_le _) (by show (#[] ++ vs.toArray).size ≤ sizeLine + 1; simp only [Array.size_append, List.size_toArray, List.length_nil]; omega))
  refine wpAny_pure ?_
  show wpAny (model prog w) A (do
      let o ← load s.heap.objs.size
      match o.data with
      | .seq xs _ => pure xs.toList
      | _ => unsupported "internal:collect") Q E { s with heap := (s.heap.push (seqObj "list" #[] 0)).update s.heap.objs.size (Obj.mapSeq (· ++ vs.toArray)) }
  refine wpAny_bind (wpAny_load (get?_update_seq (Heap.get?_push_size _ rfl) _) ?_)
  show wpAny _ _ (pure ((#[] : Array Value) ++ vs.toArray).toList) Q E _
  rw [show ((#[] : Array Value) ++ vs.toArray).toList = vs by simp]
  exact wpAny_pure h
theorem sorted_ordT {l : Addr} {vs : List Value} {ltv : Value → Value → Bool} {Q : Value → Shared → Prop} (O : SrtO.Swo ltv) (hl : s.heap.IsTuple l vs.toArray) (hz : vs.length ≤ sizeLine)
    (hS : 2 ≤ vs.length → ∀ (h₁ : Heap) (a : Addr), h₁.get? a = some (seqObj "list" vs.toArray 0) → (∀ b o, s.heap.get? b = some o → b ≠ a ∧ h₁.get? b = some o) → SrtO.SortableO prog w A.in1.in1 { s with heap := h₁ } a vs ltv)
    (h : ∀ out : List Value, SrtO.Srtd ltv out → SrtO.Stb ltv out vs → Q (.ref (s.heap.objs.size + 1)) { s with heap := sortedAll s.heap vs out.toArray }) :
    wpAny (model prog w) A (call (.builtin "sorted") [.ref l]) Q E s := by
  refine Calls.call_function_entry kind_sorted plain_sorted entry_sorted (args_sorted1 _) ?_
  unfold Builtin.«sorted»
  refine wpAny_bind (m := checkCount "sorted" 1 1 _) (wpAny_pure ?_)
  refine wpAny_bind (collect_tup hl ?_ hz)
  refine wpAny_bind (wpAny_newList ?_ hz)
  have hsz : ((s.heap.push (seqObj "list" #[] 0)).update s.heap.objs.size (Obj.mapSeq (· ++ vs.toArray))).objs.size = s.heap.objs.size + 1 := by
    rw [Heap.size_update, size_push']
  have hoL : (((s.heap.push (seqObj "list" #[] 0)).update s.heap.objs.size (Obj.mapSeq (· ++ vs.toArray))).push (seqObj "list" vs.toArray 0)).get? (s.heap.objs.size + 1) = some (seqObj "list" vs.toArray 0) := by
    rw [← hsz]; exact Heap.get?_push_size _ rfl
  have keep : ∀ b o, s.heap.get? b = some o → b ≠ s.heap.objs.size + 1 ∧ (((s.heap.push (seqObj "list" #[] 0)).update s.heap.objs.size (Obj.mapSeq (· ++ vs.toArray))).push (seqObj "list" vs.toArray 0)).get? b = some o := fun b o q => by
    have hlt : b < s.heap.objs.size := Heap.lt_size q
    refine ⟨Nat.ne_of_lt (Nat.lt_succ_of_lt hlt), Heap.get?_push_of_some _ ?_⟩
    rw [Heap.get?_update_ne _ _ _ _ (Nat.ne_of_lt hlt)]
    exact Heap.get?_push_of_some _ q
  show wpAny _ _ _ _ _ { s with heap := ((s.heap.push (seqObj "list" #[] 0)).update s.heap.objs.size (Obj.mapSeq (· ++ vs.toArray))).push (seqObj "list" vs.toArray 0) }
  rw [hsz]
  refine wpAny_bind (wpAny_holding (wpAny_call_entry slot_list_sort ⟨_, hoL, rfl⟩ entry_list_sort (SrtO.list_sort_ord O hoL hz (fun h2 => hS h2 _ _ hoL keep) fun out hs hb => ⟨_, rfl, ?_⟩) (args_list_sort _)))
  exact wpAny_pure ⟨_, rfl, h out hs hb⟩
end
/-- sorted of a list or a tuple of ints -/
def rSrtA (K : PySem.W.Frag) : List V → Hp → VK → Prop := fun vs H Q => ∃ (a : Addr) (ns : List Int), vs = [V.ref a] ∧ SqT K H a (ns.map V.int) ∧
  ∀ (ns' : List Int) (p : Addr), ns'.Perm ns → ns'.Pairwise (· ≤ ·) → H p = none → Q (.ref p) (upd H p (.lst (ns'.map V.int)))
theorem srtT {X : Cx} (K : PySem.W.Frag) (hK : X.K = K := by rfl) : CallR X (.builtin "sorted") (rSrtA K) := by
  subst hK
  intro pins s σ H vs us Q I r h
  obtain ⟨a, ns, rfl, hs, q⟩ := h
  obtain ⟨its, rv, hl, hz⟩ := I.tuple hs
  rw [Vals.ref1 r]
  have hi := rv.ints
  refine sorted_ordT SrtO.swo_int hl (by rw [← rv.length]; exact hz) (fun h2 h₁ a' _ _ => SrtO.ints_sortable hi h2) fun out h1 h2 => ?_
  obtain ⟨k1, k2, k3⟩ := SrtO.ints_out hi h1 h2
  obtain ⟨ep, he'⟩ := PyProof.Rows.sortedAll_at s.heap its out.toArray
  have hlen : ((out.map SrtO.iv).map V.int).length ≤ sizeLine := by
    rw [List.length_map, k2.length_eq]
    rw [List.length_map] at hz
    exact hz
  exact ⟨.ref _, upd H (s.heap.objs.size + 1) (.lst ((out.map SrtO.iv).map V.int)), I.laid (t' := s.toks) (fun _ _ => PyProof.Rows.sortedAll_old) (Nat.le_succ _) ⟨hlen, out, ep, vals_of_ints k1, he'⟩, rfl, q _ _ k2 k3 (I.hok.fresh (Nat.le_succ _))⟩
/-! ### len(set(tuple of ints)) -/
theorem nodup_le : ∀ {l m : List Int}, l.Nodup → l ⊆ m → l.length ≤ m.length
  | [], m, _, _ => Nat.zero_le _
  | a :: l, m, n, h => by
    have hn := List.nodup_cons.mp n
    have ha : a ∈ m := h (by simp)
    have hs : l ⊆ m.erase a := fun z hz => (List.mem_erase_of_ne (fun e : z = a => hn.1 (by rw [← e]; exact hz))).mpr (h (by simp [hz]))
    have ih := nodup_le hn.2 hs
    rw [List.length_erase_of_mem ha] at ih
    have : 0 < m.length := List.length_pos_of_mem ha
    rw [List.length_cons]
    omega
theorem nodup_len {l m : List Int} (n : l.Nodup) (h1 : l ⊆ m) (h2 : m ⊆ l) : l.length = m.length ↔ m.Nodup := by
  constructor
  · intro e
    apply Classical.byContradiction
    intro hm
    have hc : ∃ a, 1 < m.count a := by
      apply Classical.byContradiction
      intro hx
      exact hm (List.nodup_iff_count.mpr fun a => by
        apply Classical.byContradiction
        intro z
        exact hx ⟨a, by omega⟩)
    obtain ⟨a, ha⟩ := hc
    have ham : a ∈ m := List.count_pos_iff.mp (by omega)
    have hs : l ⊆ m.erase a := fun z hz => by
      by_cases e2 : z = a
      · subst e2
        refine List.count_pos_iff.mp ?_
        rw [List.count_erase_self]
        omega
      · exact (List.mem_erase_of_ne e2).mpr (h1 hz)
    have ih := nodup_le n hs
    rw [List.length_erase_of_mem ham] at ih
    have : 0 < m.length := List.length_pos_of_mem ham
    omega
  · intro hm
    have a1 := nodup_le n h1
    have a2 := nodup_le hm h2
    omega
def tLenSetT (K : PySem.W.Frag) (ta : TE) : TE := fun σ H Q => ta σ H fun x H1 => ∃ (a : Addr) (ns : List Int), x = .ref a ∧ SqT K H1 a (ns.map V.int) ∧ ns.length ≤ 1000 ∧ ∀ c : Nat, (c = ns.length ↔ ns.Nodup) → Q (.int (c : Nat)) H1
theorem pe_lenSetT {X : Cx} {K : PySem.W.Frag} {a : Expr} {ta : TE} {p p2 q pos : Pos} (hc : X.calm = true) (hg : Gl X "len") (hm : X.mg "len" = none) (hg2 : Gl X "set") (hm2 : X.mg "set" = none) (ha : PE X a ta) (hK : X.K = K := by rfl)
    (na : starEach [a] X.env = (false, eval a X.env) :: starEach [] X.env := by rfl) : PE X (.Call (.Name "len" p) [.Call (.Name "set" p2) [a] [] q] [] pos) (tLenSetT K ta) := by
  subst hK
  refine ⟨fun pins s σ H Q I h => ?_⟩
  refine Call_ (ld_blt I hg hm boot_len ?_)
  refine PyProof.Rows.callWith_builtin1 (PyProof.Rows.args_cons ?_ rfl) rfl rfl
  refine Call_ (ld_blt I hg2 hm2 boot_set ?_)
  refine PyProof.Rows.callWith_type1 (PyProof.Rows.args_cons (thn (ha.run pins s σ H _ I h) fun v s1 ⟨x, H1, I1, r1, q1⟩ => PyProof.Rows.args_nil ?_) na) na rfl
  obtain ⟨l, ns, rfl, hq, hl, q1⟩ := q1
  cases r1
  obtain ⟨its, rv, pt, hz⟩ := I1.tuple hq
  have hi : IntsAre its.toArray.toList ns := rv.ints
  have hd := I1.ok.hd hc
  refine call_set_tupI ns hd pt hi (by unfold scanBound; omega) fun h' tk c R1 hcn k => ?_
  obtain ⟨o, es, ep, t, ho, hex, hdt, g, nd, hm2, hb, hf, hn, hr, hl2⟩ := R1
  refine PyProof.Rows.args_nil ?_
  have I2 : Inv X pins σ H1 { s1 with heap := h', toks := tk } := I1.kept fun b o e => k b o e
  have hnn : c = ns.length ↔ ns.Nodup := by
    have e0 : (es.toList.map keyOf).length = c := by rw [List.length_map, Array.length_toList, hn]
    have mem : ∀ z, z ∈ es.toList.map keyOf ↔ z ∈ ns := fun z => by
      have y := hm2 z
      rw [decide_eq_true_eq] at y
      exact y.symm
    have e1 : es.toList.map keyOf ⊆ ns := fun z hz => (mem z).mp hz
    rw [← e0]
    exact nodup_len nd e1 fun z hz => (mem z).mpr hz
  refine call_len_set ho hex hdt hf (by rw [hn]; have := hcn; omega) ⟨.int (c : Nat), H1, I2.tok _, ⟨_, by rw [hn]⟩, q1 c hnn⟩
/-! ### enumerate(tuple) -/
theorem meets_enumerate_newT (l : Addr) (items : Array Value) (n : Nat) (dct : Option Addr) (sl : Array (Option Value)) :
    Meets (Builtin.«enumerate.__new__» ⟨[.type "enumerate", .ref l], []⟩) (fun _ R s => s.heap.get? l = some { cls := .type "tuple", dict := dct, data := .seq items n, slots := sl } ∧
      R (.ok (.ret (.ref (s.heap.push { cls := .type "tuple_iterator", data := .fields #[.ref l, .int 0 0] }).objs.size)))
        { s with heap := (s.heap.push { cls := .type "tuple_iterator", data := .fields #[.ref l, .int 0 0] }).push { cls := .type "enumerate", data := .fields #[.none, .bool false, .ref s.heap.objs.size, rawInt 0, .none, .none] } }) :=
  .of_wp fun prog w A R s h => by
    obtain ⟨hp, g, d, tk, os⟩ := s; obtain ⟨hl, h⟩ := h
    have hsub := sub_enumerate
    have hL : Heap.IsTuple (Shared.heap ⟨hp, g, d, tk, os⟩) l items := ⟨_, hl, rfl, n, rfl⟩
    wp_walk using AutoSeq1.wpAny_loadPart' hl
    refine wpAny_stack_any fun st => wpAny_pure ?_
    split
    · rename_i c _ _ _ _ _
      cases (c == Value.type "enumerate")
      · wp_walk using AutoSeq1.wpAny_loadPart' hl, wpAny_pyIter_tuple hL
        exact ⟨_, rfl, h⟩
      · wp_walk using AutoSeq1.wpAny_loadPart' hl, wpAny_pyIter_tuple hL
        exact ⟨_, rfl, h⟩
    · wp_walk using AutoSeq1.wpAny_loadPart' hl, wpAny_pyIter_tuple hL
      exact ⟨_, rfl, h⟩
theorem call_enumerate_tup {prog : Program} {w : World} {A : Around} {E : Value → Shared → Prop} {s : Shared} {l : Addr} {items : Array Value} {Q : Value → Shared → Prop} (hL : s.heap.IsTuple l items)
    (h : ∀ h', IsEnum h' (s.heap.objs.size + 1) s.heap.objs.size 0 .none → h'.IsTupleIter s.heap.objs.size l 0 → h'.objs.size = s.heap.objs.size + 2 →
      (∀ b o, s.heap.get? b = some o → h'.get? b = some o) → Q (.ref (s.heap.objs.size + 1)) { s with heap := h' }) :
    wpAny (model prog w) A (call (.type "enumerate") [.ref l]) Q E s := by
  obtain ⟨⟨c, dct, dt, sl⟩, hl, hc, n, hd⟩ := hL
  replace hc : c = .type "tuple" := hc
  replace hd : dt = .seq items n := hd
  subst hc hd
  refine callType_new F.called_enumerate (by decide) (F.typeCall_enumerate_1 _) (F.newCall_enumerate_1 _) (fun obj => F.args_object_init_2 obj _) F.entry_enumerate_new
    (meets_enumerate_newT l items n dct sl) ⟨hl, ?_⟩
  have hz : (s.heap.push { cls := .type "tuple_iterator", data := .fields #[.ref l, .int 0 0] }).objs.size = s.heap.objs.size + 1 := Heap.size_push ..
  show _ ∧ _
  rw [hz]
  have he : IsEnum ((s.heap.push { cls := .type "tuple_iterator", data := .fields #[.ref l, .int 0 0] }).push
      { cls := .type "enumerate", data := .fields #[.none, .bool false, .ref s.heap.objs.size, rawInt 0, .none, .none] }) (s.heap.objs.size + 1) s.heap.objs.size 0 .none := by
    have := Heap.get?_push_size (s.heap.push { cls := .type "tuple_iterator", data := .fields #[.ref l, .int 0 0] })
      (o := { cls := .type "enumerate", data := .fields #[.none, .bool false, .ref s.heap.objs.size, rawInt 0, .none, .none] }) rfl
    rw [hz] at this; exact this
  refine ⟨⟨_, he, rfl⟩, h _ he ⟨_, Heap.get?_push_of_some _ (Heap.get?_push_size _ rfl), rfl, rfl⟩ (by rw [Heap.size_push, hz]) fun b o x => Heap.get?_push_of_some _ (Heap.get?_push_of_some _ x)⟩
def IteT (K : PySem.W.Frag) (a : Addr) : It :=
  ⟨fun i H => ∃ (xs : List V) (x : V), SqT K H a xs ∧ xs[i]? = some x, fun i H v H' => ∃ T x, v = .ref T ∧ H T = none ∧ H' = upd H T (.tup [.int (i : Nat), x]) ∧ ∀ xs, SqT K H a xs → xs[i]? = some x, fun i H => ∃ xs : List V, SqT K H a xs ∧ xs.length ≤ i⟩
theorem turn_enumT {P : Program} {w : World} {K : PySem.W.Frag} {elts : List Expr} {kk : Nat} {tpos : Pos} (a e it : Addr) :
    Turn P w K (.Tuple elts kk tpos) (IteT K a) [e, it] e (fun i h => (∃ old, IsEnum h e it ((i : Nat) : Int) old) ∧ h.IsTupleIter it a i ∧ e ≠ it ∧ a ≠ it) where
  mem := by simp
  obj := fun i h st b hb => by
    obtain ⟨⟨old, he⟩, ⟨o, ho, hc, hd⟩, _⟩ := st
    have e' : b = e ∨ b = it := by simpa using hb
    rcases e' with z | z
    · rw [z]; exact ⟨_, he, fun v q => nomatch q⟩
    · rw [z]; exact ⟨o, ho, fun v q => by rw [hd] at q; cases q⟩
  keep := fun i h h' st k => let ⟨⟨old, he⟩, hi, hne, hn2⟩ := st; ⟨⟨old, k e (by simp) _ he⟩, hi.at fun o q => k it (by simp) o q, hne, hn2⟩
  item := by
    intro X hP hw hK hc i pins s σ H E I hf st hg
    subst hP hw hK
    obtain ⟨⟨old, he⟩, hit, hne, hn2⟩ := st
    obtain ⟨xs, x, hq, hx⟩ := hg
    obtain ⟨its, rv, p, hz⟩ := I.tuple hq
    obtain ⟨u, hu, ru⟩ := rv.get hx
    have hel : e < s.heap.objs.size := Heap.lt_size he
    have hil : it < s.heap.objs.size := by obtain ⟨_, q, _⟩ := hit; exact Heap.lt_size q
    have hlt : i < its.toArray.size := by
      have z := (List.getElem?_eq_some_iff.mp hu).1
      simpa using z
    have hae : a ≠ e := fun z => by
      obtain ⟨o, ho, hc2, _⟩ := p
      have he2 : s.heap.get? e = some _ := he
      rw [z, he2] at ho
      have := Option.some.inj ho
      subst this
      exact absurd (show Value.type "enumerate" = Value.type "tuple" from hc2) (by decide)
    refine wpAny_pyNext_enum_itemD (Draws.tuple (A := X.A.in1) (I.ok.hd hc) it a hn2 its.toArray) he ⟨hit, p⟩ hlt hne (by simp [hne, hae.symm]) fun x' h' tk hx' ho hst' hT hsz hk => ?_
    obtain ⟨hit', p'⟩ := hst'
    have exu : x' = u := by
      have z : its.toArray[i]? = some u := by simpa using hu
      rw [z] at hx'
      exact (Option.some.inj hx').symm
    subst exu
    refine ⟨_, rfl, wpAny_letOwnedTupleGo_enum (s := { s with heap := h', toks := tk + 1 }) ho fun h'' he' sb => ?_⟩
    have hT2 : h''.get? s.heap.objs.size = some { cls := .type "tuple", data := .seq #[.int i tk, x'] } := (sb.2 _ (Nat.ne_of_gt hel)).trans hT
    have new : ObjOk X.prog X.w (upd H s.heap.objs.size (.tup [.int (i : Nat), x])) h'' s.heap.objs.size (.tup [.int (i : Nat), x]) :=
      ⟨by show 2 ≤ sizeLine; decide, [.int i tk, x'], .cons ⟨_, rfl⟩ (.cons ru .nil), ⟨_, hT2, rfl, _, rfl⟩⟩
    have I1 : Inv X pins σ (upd H s.heap.objs.size (.tup [.int (i : Nat), x])) { s with heap := h'', toks := tk + 1 } :=
      I.turnedNew (ch := [e, it]) (fun b ob hb q => (sb.2 b (fun z => hb (by simp [z]))).trans (hk b ob (fun z => hb (by simp [z])) (fun z => hb (by simp [z])) q)) hf (Nat.le_refl _) new
    refine ⟨.ref s.heap.objs.size, _, I1, rfl, ⟨_, x, rfl, I.hok.fresh (Nat.le_refl _), rfl, fun ys hy => by rw [I.tuple_inj hy hq]; exact hx⟩, ⟨⟨x', ?_⟩, hit'.at fun o q => (sb.2 it (Ne.symm hne)).trans q, hne, hn2⟩, fun b hb => ?_⟩
    · have e1 : ((i + 1 : Nat) : Int) = (i : Int) + 1 := by omega
      rw [e1]; exact he'
    · have hb' : b < s.heap.objs.size := by
        have e' : b = e ∨ b = it := by simpa using hb
        rcases e' with z | z
        · rw [z]; exact hel
        · rw [z]; exact hil
      rw [upd_ne (Nat.ne_of_lt hb')]
      exact (hf b hb).1
  done := by
    intro X hP hw hK hc i pins s σ H E I hf st hg
    subst hP hw hK
    obtain ⟨⟨old, he⟩, hit, hne, hn2⟩ := st
    obtain ⟨xs, hq, hx⟩ := hg
    obtain ⟨its, rv, p, hz⟩ := I.tuple hq
    obtain ⟨f0, f1, f2, f3, f4, f5⟩ := hf it (by simp)
    have hl := rv.length
    have hT : s.TypeIs (.ref e) "enumerate" := ⟨_, he, rfl⟩
    unfold pyNext
    refine wpAny_bind (wpAny_attempt (wpAny_callSpecial?_slot (name := Str.ofString "__next__") hT F.slot_enumerate_next
      (wpAny_call_entry F.slot_enumerate_next hT F.entry_enumerate_next ?_ (F.args_enumerate_next_1 _))))
    show wpAny _ _ (field (.ref e) 2 >>= _) _ _ _
    refine wpAny_bind (wpAny_field he rfl (x := .ref it) rfl ?_)
    refine wpAny_bind (wpAny_nextOf_tuple_end (I.ok.hd hc) hit p (by simp; omega) fun h' x he' hx' => ?_)
    obtain ⟨o, ho, hc3⟩ := hx'
    refine wpAny_bind (wpAny_isInstance (T := "StopIteration") (b := true) ⟨o, ho, hc3⟩ isSubtype_stop ?_)
    exact wpAny_pure ⟨rfl, I.turned (t' := s.toks) (fun b o hb q => he' b o hb q) f0 f1 f3 f4 f5⟩
  self := fun A i s Q E st h => let ⟨⟨_, he⟩, _⟩ := st; wpAny_pyIter_enum he h
def iEnumT (K : PySem.W.Frag) (ta : TA) : TI := fun σ H R => ta σ H fun vs H1 => ∃ a xs, vs = [.ref a] ∧ SqT K H1 a xs ∧ R (IteT K a) H1
theorem pi_enumT {X : Cx} {K : PySem.W.Frag} {e : Expr} {ta : TA} {p pos tpos : Pos} {elts : List Expr} {kk : Nat} (hg : Gl X "enumerate") (hm : X.mg "enumerate" = none) (ha : PA X [e] ta) (hK : X.K = K := by rfl) (hs : starEach [e] X.env = [(false, eval e X.env)] := by rfl) :
    PI X (.Tuple elts kk tpos) (.Call (.Name "enumerate" p) [e] [] pos) (iEnumT K ta) := by
  subst hK
  refine ⟨fun pins s σ H R I h => ?_⟩
  refine Call_ (ld_blt I hg hm boot_enumerate (PyProof.Rows.callWith_type1 (thn (ha.run pos pins s σ H _ I h) fun us s1 ⟨vs, H1, I1, r1, q1⟩ => ?_) hs rfl))
  obtain ⟨a, xs, ex, hq, q⟩ := q1
  subst ex
  cases r1 with
  | cons r rr =>
    cases rr
    cases r
    obtain ⟨its, rv, p', hz⟩ := I1.tuple hq
    have hal : a < s1.heap.objs.size := by obtain ⟨_, z, _⟩ := p'; exact Heap.lt_size z
    refine call_enumerate_tup p' fun h' he hit hsz hk => wpAny_pyIter_enum he ?_
    have I2 : Inv X pins σ H1 { s1 with heap := h' } := I1.kept (t' := s1.toks) hk
    refine ⟨s1.heap.objs.size + 1, [s1.heap.objs.size + 1, s1.heap.objs.size], _, _, H1, rfl, I2, turn_enumT a (s1.heap.objs.size + 1) s1.heap.objs.size, ⟨⟨.none, he⟩, hit, Nat.succ_ne_self _, Nat.ne_of_lt hal⟩, fun b hb => ?_, q⟩
    have e' : b = s1.heap.objs.size + 1 ∨ b = s1.heap.objs.size := by simpa using hb
    have hle : s1.heap.objs.size ≤ b := by
      rcases e' with z | z
      · rw [z]; exact Nat.le_add_right _ _
      · rw [z]; exact Nat.le_refl _
    exact I1.fpOk hle (I1.hok.fresh hle)
/-! ### f(k = e, ..): by keywords alone -/
section
variable {X : Cx} {CX : CXT} {k : Nat} {f : Addr} {fd : FuncData} {ps ks : List Str} {sp : Sp} {E : XK} {x : Str} {p pos : Pos} {g : List Value → List Value → List Value} {gV : List V → List V → List V} {kws : List Keyword} {tk : TA}
theorem pe_callKO (F : FnOk X.prog X.w X.K X.mg X.base CX k f fd ps sp) (hr : Room k X.A) (hg : Gl X x) (hm : X.mg x = some (.ref f)) (hk : PySem.W.keepIn X.K (.ref f) = true) (hb : KBinds X.K fd ps ks g gV) (hx : Passes CX X E)
    (hkw : PK X kws tk) (hall : (backToKw pos (keywordEach kws X.env)).all (·.1.isSome) = true := by rfl) (hks : (backToKw pos (keywordEach kws X.env)).filterMap (·.1) = ks := by rfl)
    (hdb : (x == ("__debug__" : Str)) = false := by decide)
    (hpl : ((backTo pos (starEach [] X.env)).any (·.1) || (backToKw pos (keywordEach kws X.env)).any (·.1.isNone)) = false := by rfl) :
    PE X (.Call (.Name x p) [] kws pos) (tCallK sp gV E tNil tk) := by
  refine ⟨fun pins s σ H Q I h => ?_⟩
  refine wpAny_Call_Name_kw (ld_glob I hg hm ?_ hdb)
  refine PySem.W.callWith_KW0 (h₀ := X.base) I.ok.mod.kin hk hall ?_ hpl
  have h : tk σ H fun zs H2 => sp (gV [] zs) H2 Q E := h
  refine thn (hkw.run pos pins s σ H _ I h) fun ws s2 ⟨zs, H2, I2, rz, q2⟩ => ⟨I2.kIn, ?_⟩
  rw [hks]
  exact run_fnk F hr hb hx I2 .nil rz q2
end

/-! ### books as data -/
def bookD (n : Int) (rows : List (List Int)) : PyData := .tuple [.int n, .tuple (rows.map dTup)]
def isListed (n : Int) (d : PyData) : Bool := isLot n d && decide (2 ≤ (dInts d).length)
def isBook : PyData → Bool
  | .tuple [.int n, .tuple ls] => decide (1 ≤ n) && ls.all (isListed n)
  | _ => false
def tiedB (rows : List (List Int)) (x y : Int) : Bool := rows.any fun r => decide (x ∈ r) && decide (y ∈ r)
def isTie (n : Int) (rows : List (List Int)) (d : PyData) : Bool := isLot n d && decide ((dInts d).length = 2) && tiedB rows ((dInts d).getD 0 0) ((dInts d).getD 1 0)
def tiedAll (rows : List (List Int)) : List Int → Bool
  | [] => true
  | [_] => true
  | a :: b :: r => tiedB rows a b && tiedAll rows (b :: r)
def isRow (n : Int) (rows : List (List Int)) (d : PyData) : Bool := isLot n d && decide (2 ≤ (dInts d).length) && tiedAll rows (dInts d)
theorem rp_book {K : PySem.W.Frag} {H : Hp} {v : V} {n : Int} {rows : List (List Int)} (h : Rp K H v (bookD n rows)) :
    ∃ b L xs, v = .ref b ∧ SqT K H b [.int n, .ref L] ∧ SqT K H L xs ∧ xs.length ≤ 1000 ∧ RpAll K H xs (rows.map dTup) := by
  unfold bookD at h
  cases h with
  | tup s l r =>
    cases r with
    | cons r1 r =>
      cases r1
      cases r with
      | cons r2 r =>
        cases r
        cases r2 with
        | tup s2 l2 r2 => exact ⟨_, _, _, rfl, s, s2, l2, r2⟩
theorem RpAll.row {K : PySem.W.Frag} {H : Hp} {xs : List V} {rows : List (List Int)} {i : Nat} {x : V} (r : RpAll K H xs (rows.map dTup)) (h : xs[i]? = some x) : ∃ ns a, rows[i]? = some ns ∧ x = .ref a ∧ TupI K H a ns := by
  obtain ⟨d, hd, rd⟩ := r.get h
  rw [List.getElem?_map] at hd
  cases e : rows[i]? with
  | none => rw [e] at hd; cases hd
  | some ns =>
    rw [e] at hd
    have ed := (Option.some.inj hd).symm
    subst ed
    obtain ⟨a, rfl, t⟩ := rd.tupI
    exact ⟨ns, a, rfl, rfl, t⟩
theorem inV_int (x : Int) : ∀ ns : List Int, inV (.int x) (ns.map V.int) = decide (x ∈ ns)
  | [] => rfl
  | n :: ns => by
    have ih := inV_int x ns
    unfold inV at ih ⊢
    rw [List.map_cons, List.any_cons, ih]
    have e : eqV (.int n) (.int x) = decide (n = x) := by
      unfold eqV
      rfl
    rw [e]
    by_cases c : n = x
    · simp [c]
    · have c' : ¬ x = n := fun z => c z.symm
      simp [c, c']
theorem flat_ints (ns : List Int) : (ns.map V.int).all flatV = true := by
  rw [List.all_map]
  exact List.all_eq_true.mpr fun _ _ => rfl
theorem any_range {α : Type} (p : α → Bool) (z : α) : ∀ l : List α, ((List.range l.length).map fun j => p (l.getD j z)).any id = l.any p
  | [] => rfl
  | x :: l => by
    rw [List.length_cons, range_succ_map, List.any_cons, List.any_cons, ← any_range p z l]
    rfl
theorem tiedAll_all (rows : List (List Int)) : ∀ ns : List Int, ((List.range (ns.length - 1)).map fun j => tiedB rows (ns.getD j 0) (ns.getD (j + 1) 0)).all id = tiedAll rows ns
  | [] => rfl
  | [_] => rfl
  | a :: b :: r => by
    have ih := tiedAll_all rows (b :: r)
    have e : (a :: b :: r).length - 1 = ((b :: r).length - 1) + 1 := by simp
    rw [e, range_succ_map, List.all_cons]
    show (tiedB rows a b && _) = (tiedB rows a b && tiedAll rows (b :: r))
    rw [← ih]
    rfl
section
variable (K : PySem.W.Frag)
def spTied : Sp := fun vs H Q _ => ∃ v x y n rows, vs = [v, .int x, .int y] ∧ Rp K H v (bookD n rows) ∧ ∀ H', Same H H' → Q (.bl (tiedB rows x y)) H'
def spBB0 (g : Int → List (List Int) → PyData → Bool) : Sp := fun vs H Q _ => ∃ v u d n rows, vs = [v, u] ∧ Rp K H v (bookD n rows) ∧ Rp K H u d ∧ Q (.bl (g n rows d)) H
def spBB (g : Int → List (List Int) → PyData → Bool) : Sp := fun vs H Q _ => ∃ v u d n rows, vs = [v, u] ∧ Rp K H v (bookD n rows) ∧ Rp K H u d ∧ ∀ H', Same H H' → Q (.bl (g n rows d)) H'
def spB (g : PyData → Bool) : Sp := fun vs H Q _ => ∃ v d, vs = [v] ∧ Rp K H v d ∧ ∀ H', Same H H' → Q (.bl (g d)) H'
end
end LK
namespace LK
open PySem PySem.Spec PyProof.Rows L2
theorem catA {X : Cx} (K : PySem.W.Frag) (h : X.K = K := by rfl) : OpR X (binaryOp .Add) (rCatA K) := h ▸ op_catA
/-! ### raising -/
/-- the exception class at C is raised with this word and place -/
def Rz (C : Addr) (E : XK) (H : Hp) (word : Str) (at_ : Int) : Prop := ∀ d H', Same H H' → H' d = some (.xd [("at", .int at_), ("word", .str word)]) → E (.ref C) (some d) H'
theorem Rz.same {C : Addr} {E : XK} {H H1 : Hp} {word : Str} {at_ : Int} (r : Rz C E H word at_) (s : Same H H1) : Rz C E H1 word at_ := fun d H' s' h => r d H' (s.trans s') h
/-- what C.__init__(self, word, at) leaves -/
def spInit2 (C : Addr) : Sp := fun vs H Q _ => ∃ a w t, vs = [.ref a, w, t] ∧ H a = some (exo a C none) ∧
  ∀ dx, H dx = none → dx ≠ a → Q .non (upd (upd (upd H dx (exd dx [("word", w)])) a (exo a C (some dx))) dx (exd dx [("at", t), ("word", w)]))
/-- the reading of raise C(word, at) -/
theorem raise2 {C : Addr} {σ : L2.St} {H : Hp} {ta : TA} {E : XK} {word : Str} {at_ : Int} (h : Rz C E H word at_) (ha : ∀ Q, Q [V.str word, V.int at_] H → ta σ H Q) :
    tMkO C (spInit2 C) [] ta σ H fun cls d H' => E cls d H' := by
  refine ha _ ⟨(by show 2 ≤ 1000; decide), fun a hn => ⟨a, .str word, .int at_, rfl, upd_same, fun dx hd hda => ⟨rfl, dx, _, ?_, upd_same, ?_, ?_⟩⟩⟩
  · rw [upd_ne (Ne.symm hda), upd_same]
  · rw [upd_ne hda] at hd
    exact hd
  · refine h dx _ (fun b o e => ?_) upd_same
    rw [upd_ne hda] at hd
    have hb : b ≠ a := ne_of_none e hn
    have hb2 : b ≠ dx := ne_of_none e hd
    rw [upd_ne hb2, del_ne hb, upd_ne hb2, upd_ne hb, upd_ne hb2, upd_ne hb]
    exact e
/-- what a def hands back or raises -/
def Out (K : PySem.W.Frag) (C : Addr) (Q : VK) (E : XK) (H : Hp) : Except (Str × Int) PyData → Prop
  | .ok d => ∀ v H', Same H H' → Rp K H' v d → Q v H'
  | .error (w, a) => Rz C E H w a
def spNeed (C : Addr) : Sp := fun vs H Q E => ∃ b word, vs = [.bl b, .str word] ∧ (b = true → Q .non H) ∧ (b = false → Rz C E H word (-1))
/-- a def of a book and one more value -/
def spX (K : PySem.W.Frag) (C : Addr) (ok : Int → List (List Int) → PyData → Prop) (g : Int → List (List Int) → PyData → Except (Str × Int) PyData) : Sp :=
  fun vs H Q E => ∃ v u d n rows, vs = [v, u] ∧ Rp K H v (bookD n rows) ∧ Rp K H u d ∧ ok n rows d ∧ Out K C Q E H (g n rows d)

/-! ### the mirror of bookchanges -/
def srt (l : List Int) : List Int := l.mergeSort fun a b => decide (a ≤ b)
theorem srt_perm (l : List Int) : (srt l).Perm l := List.mergeSort_perm l _
theorem srt_pw (l : List Int) : (srt l).Pairwise (· ≤ ·) := by
  have h := List.pairwise_mergeSort (le := fun a b : Int => decide (a ≤ b)) (fun a b c h1 h2 => by simp at *; omega) (fun a b => by simp; omega) l
  exact h.imp fun h => by simpa using h
theorem srt_eq {l ns : List Int} (p : ns.Perm l) (h : ns.Pairwise (· ≤ ·)) : ns = srt l :=
  List.Perm.eq_of_pairwise (fun x y _ _ h1 h2 => Int.le_antisymm h1 h2) h (srt_pw l) (p.trans (srt_perm l).symm)
theorem srt_length (l : List Int) : (srt l).length = l.length := (srt_perm l).length_eq
def keptRow (lot r : List Int) : List Int := (r.filter fun x => decide (x ∈ lot)).map fun x => ((lot.idxOf x : Nat) : Int)
def keptRows (lot : List Int) (rows : List (List Int)) : List (List Int) := (rows.map (keptRow lot)).filter fun r => decide (2 ≤ r.length)
def keptTo (n : Int) (rows : List (List Int)) (d : PyData) : Except (Str × Int) PyData :=
  if isLot n d && decide (0 < (dInts d).length) then .ok (bookD (dInts d).length (keptRows (dInts d) rows)) else .error ("lot", -1)
def withList (n : Int) (rows : List (List Int)) (d : PyData) : Except (Str × Int) PyData :=
  if areUnlike n d && decide (2 ≤ (dInts d).length) then .ok (bookD n (rows ++ [srt (dInts d)])) else .error ("things", -1)
def withoutList (n : Int) (rows : List (List Int)) (d : PyData) : Except (Str × Int) PyData :=
  if isBelow rows.length d then .ok (bookD n (rows.take (toInt d).toNat ++ rows.drop ((toInt d).toNat + 1))) else .error ("listed", -1)
/-- size and lists of a book -/
def bSize : PyData → Int
  | .tuple (.int n :: _) => n
  | _ => 0
def bRows : PyData → List (List Int)
  | .tuple [_, .tuple ls] => ls.map dInts
  | _ => []
def besideB (n : Int) (rows : List (List Int)) (d : PyData) : Except (Str × Int) PyData :=
  if isBook d then .ok (bookD (n + bSize d) (rows ++ (bRows d).map fun r => r.map fun x => n + x)) else .error ("other", -1)
theorem isBook_eq {d : PyData} (h : isBook d = true) : d = bookD (bSize d) (bRows d) := by
  match d, h with
  | .tuple [.int n, .tuple ls], h =>
    unfold isBook at h
    rw [Bool.and_eq_true] at h
    have h2 := h.2
    show PyData.tuple [.int n, .tuple ls] = .tuple [.int n, .tuple ((ls.map dInts).map dTup)]
    have : ls = (ls.map dInts).map dTup := by
      rw [List.map_map]
      have e : ∀ l : List PyData, l.all (isListed n) = true → l = l.map (dTup ∘ dInts) := by
        intro l
        induction l with
        | nil => intro _; rfl
        | cons a l ih =>
          intro hh
          rw [List.all_cons, Bool.and_eq_true] at hh
          rw [List.map_cons, ← ih hh.2]
          have : areBelow n a = true := by
            have := hh.1
            unfold isListed isLot at this
            simp only [Bool.and_eq_true] at this
            exact this.1.1
          show a :: l = dTup (dInts a) :: l
          rw [← areBelow_tup this]
      exact e ls h2
    rw [← this]
/-- the things of line[i] get the number i -/
def renum (line : List Int) (rows : List (List Int)) : List (List Int) := rows.map fun r => srt (r.map fun x => ((line.idxOf x : Nat) : Int))
def rebasedB (n : Int) (rows : List (List Int)) (d : PyData) : Except (Str × Int) PyData :=
  if isLine n d then .ok (bookD n (renum (dInts d) rows)) else .error ("line", -1)
def revRange (n : Nat) : List Int := (List.range n).map fun j => ((n - 1 - j : Nat) : Int)
def mirroredB (n : Int) (rows : List (List Int)) : PyData := bookD n (renum (revRange n.toNat) rows)
/-- the things of the rows are below n -/
def RowsIn (n : Int) (rows : List (List Int)) : Prop := ∀ r ∈ rows, ∀ x ∈ r, 0 ≤ x ∧ x < n

/-! ### answers that are the same each time -/
section
variable {K : PySem.W.Frag} {H : Hp} {Q : VK}
theorem catA_use {a b : Addr} {xs ys : List V} (ha : SqT K H a xs) (hb : SqT K H b ys) (hz : xs.length + ys.length ≤ 2000) (k : ∀ p H', Same H H' → SqT K H' p (xs ++ ys) → Q (.ref p) H') : rCatA K (.ref a) (.ref b) H Q := by
  have hs : (2000 : Nat) ≤ sizeLine := by decide
  refine ⟨a, b, xs, ys, rfl, rfl, ha, hb, Nat.le_trans hz hs, fun e => ?_, fun _ e => ?_, fun _ _ p hp => k p _ (same_upd hp) (SqT.of upd_same)⟩
  · subst e
    exact k b H (Same.refl _) hb
  · subst e
    refine k a H (Same.refl _) ?_
    rw [List.append_nil]
    exact ha
theorem tupL_use {a : Addr} {xs : List V} (ha : SqL K H a xs) (k : ∀ p H', Same H H' → SqT K H' p xs → Q (.ref p) H') : rTupOf K [.ref a] H Q :=
  ⟨a, xs, rfl, .inl ⟨ha, fun p hp => k p _ (same_upd hp) (SqT.of upd_same)⟩⟩
theorem lstT_use {a : Addr} {xs : List V} (ha : SqL K H a xs ∨ SqT K H a xs) (k : ∀ p H', Same H H' → H p = none → H' p = some (.lst xs) → Q (.ref p) H') : rLstOf K [.ref a] H Q :=
  ⟨a, xs, rfl, ha, fun p hp => k p _ (same_upd hp) hp upd_same⟩
theorem slA_use {a : Addr} {xs : List V} {lo hi : Option Int} (ha : SqT K H a xs) (k : ∀ p H', Same H H' → SqT K H' p (cutV xs lo hi) → Q (.ref p) H') : rSlA K (.ref a) lo hi H Q := by
  refine ⟨a, xs, rfl, ha, fun e => ?_, fun _ p hp => k p _ (same_upd hp) (SqT.of upd_same)⟩
  refine k a H (Same.refl _) ?_
  have : cutV xs lo hi = xs := by
    unfold cutV
    rw [e.1, e.2]
    simp
  rw [this]
  exact ha
theorem isi_use {c : String} {v : V} {d : PyData} (h : Rp K H v d) {r : Bool} (e : PySem.W.kitOne K (.type (tyN d)) (.type c) = some r) (k : Q (.bl r) H) : rIsi K [v, .ty c] H Q := ⟨v, .ty c, _, _, r, rfl, .ty _, h.ty, e, k⟩
end
theorem RpAll.one {K : PySem.W.Frag} {H : Hp} {v : V} {d : PyData} (h : Rp K H v d) : RpAll K H [v] [d] := .cons h .nil
theorem RpAll.two {K : PySem.W.Frag} {H : Hp} {v u : V} {d e : PyData} (h : Rp K H v d) (g : Rp K H u e) : RpAll K H [v, u] [d, e] := .cons h (.cons g .nil)
/-- a pair (n, L) that was just laid, L a tuple of rows -/
theorem rp_bookNew {K : PySem.W.Frag} {H : Hp} {L p : Addr} {xs : List V} {n : Int} {rows : List (List Int)} (hL : SqT K H L xs) (hz : xs.length ≤ 1000) (r : RpAll K H xs (rows.map dTup)) (hp : H p = none) :
    Rp K (upd H p (.tup [.int n, .ref L])) (.ref p) (bookD n rows) :=
  .tup (SqT.of upd_same) (by show 2 ≤ 1000; decide) (.two (.int n) ((Rp.tup hL hz r).same (same_upd hp)))
theorem noLs_rows : ∀ rows : List (List Int), noLs (rows.map dTup) = true
  | [] => rfl
  | r :: rows => by
    have h2 := noLs_rows rows
    have h1 : noL (dTup r) = true := by
      show noLs (r.map PyData.int) = true
      refine all_noL fun d hd => ?_
      obtain ⟨x, _, rfl⟩ := List.mem_map.mp hd
      rfl
    rw [List.map_cons]
    unfold noLs
    rw [h1, h2]
    rfl
theorem noL_dTup (r : List Int) : noL (dTup r) = true := by
  show noLs (r.map PyData.int) = true
  refine all_noL fun d hd => ?_
  obtain ⟨x, _, rfl⟩ := List.mem_map.mp hd
  rfl
theorem map_range {α β : Type} (f : α → β) (z : α) : ∀ l : List α, ((List.range l.length).map fun j => f (l.getD j z)) = l.map f
  | [] => rfl
  | x :: l => by
    rw [List.length_cons, range_succ_map, List.map_cons, ← map_range f z l]
    rfl
theorem filter_map_range {α β : Type} (p : α → Bool) (f : α → β) (z : α) : ∀ l : List α, (((List.range l.length).filter fun j => p (l.getD j z)).map fun j => f (l.getD j z)) = (l.filter p).map f
  | [] => rfl
  | x :: l => by
    have ih := filter_map_range p f z l
    rw [List.length_cons, List.range_succ_eq_map, List.filter_cons, List.filter_map, List.filter_cons]
    have e0 : (x :: l).getD 0 z = x := rfl
    have e1 : ((fun j => p ((x :: l).getD j z)) ∘ Nat.succ) = fun j => p (l.getD j z) := rfl
    rw [e0, e1]
    cases p x with
    | true =>
      simp only [if_true, List.map_cons, List.map_map]
      rw [← ih]
      rfl
    | false =>
      simp only [Bool.false_eq_true, if_false, List.map_map]
      rw [← ih]
      rfl

/-! ### tuples whose object is known to have no dict: what has .index -/
def DN (H : Hp) (v : V) : Prop := ∀ a, v = .ref a → ∃ o u, H a = some (.frz o u) ∧ o.dict = none
theorem DN.same {H H' : Hp} {v : V} (h : DN H v) (s : Same H H') : DN H' v := fun a e => by
  obtain ⟨o, u, h1, h2⟩ := h a e
  exact ⟨o, u, s _ _ h1, h2⟩
def rTupN (K : PySem.W.Frag) : List V → Hp → VK → Prop := fun xs H Q => ∃ p ys, xs = [.ref p] ∧ SqL K H p ys ∧ ∀ l o, H l = none → o.dict = none → Q (.ref l) (upd H l (.frz o (.tup ys)))
theorem tupN {X : Cx} (K : PySem.W.Frag) (hK : X.K = K := by rfl) : CallR X (.type "tuple") (rTupN K) := by
  subst hK
  intro pins s σ H xs us Q I r h
  obtain ⟨p, ys, rfl, hq, q⟩ := h
  obtain ⟨u, rfl, rx⟩ := vals1 r
  cases rx
  obtain ⟨its, r', pl, hz⟩ := I.list hq
  have hlen := r'.length
  refine call_tuple_list pl.isList (fun h' kp => ?_) (by simp only [List.size_toArray] <;> omega)
  have I1 : Inv X pins σ H { s with heap := h' } := I.kept (t' := s.toks) kp
  have I2 : Inv X pins σ (upd H h'.objs.size (.frz { cls := .type "tuple", data := .seq its.toArray } (.tup ys))) { s with heap := h'.push { cls := .type "tuple", data := .seq its.toArray } } :=
    I1.laid (t' := s.toks) (fun b o e => Heap.get?_push_of_some _ e) (Nat.le_refl _) (show ObjOk X.prog X.w _ _ _ (.frz _ (.tup ys)) from ⟨Heap.get?_push_size _ rfl, hz, its, r', IsTup.new _ _⟩)
  exact ⟨.ref h'.objs.size, _, I2, rfl, q _ _ (I1.hok.fresh (Nat.le_refl _)) rfl⟩
def tTidx (K : PySem.W.Frag) (to : TE) (t : TA) : TE := fun σ H Q => to σ H fun x H1 => ∃ (a : Addr) (ns : List Int), x = .ref a ∧ SqT K H1 a (ns.map V.int) ∧ DN H1 x ∧ t σ H1 fun vs H2 => ∃ k, vs = [.int k] ∧ SqT K H2 a (ns.map V.int) ∧ k ∈ ns ∧ Q (.int (ns.idxOf k : Nat)) H2
theorem pe_tidx {X : Cx} {K : PySem.W.Frag} {o e : Expr} {to : TE} {t : TA} {apos cpos : Pos} (ho : PE X o to) (ha : PA X [e] t) (hK : X.K = K := by rfl)
    (hbase : attributeBase o "index" X.env (eval o X.env) = eval o X.env := by rfl)
    (hfew : ((backTo cpos (starEach [e] X.env)).all (fun x => !x.1) && (backToKw cpos (keywordEach [] X.env)).all (fun x => x.1.isSome)
      && decide (([e] : List Expr).length + ([] : List Keyword).length + (if ([] : List Keyword).isEmpty then 0 else 1) < 30)) = true := by rfl)
    (hline : (apos.endLine == cpos.line) = true := by rfl) (hs : starEach [e] X.env = (false, eval e X.env) :: starEach [] X.env := by rfl) :
    PE X (.Call (.Attribute o "index" apos) [e] [] cpos) (tTidx K to t) := by
  subst hK
  refine ⟨fun pins s σ H Q I h => ?_⟩
  refine wpAny_Call_method_late hbase hfew hline rfl (thn (ho.run pins s σ H _ I h) fun v s1 ⟨x, H1, I1, r1, a, ns, ex, hq, dn, q1⟩ => ?_)
  subst ex
  cases r1
  obtain ⟨ob, u, hf, hdn⟩ := dn a rfl
  have hob : s1.heap.get? a = some ob := (I1.hok a _ hf).1
  obtain ⟨its, rv, pl, hz⟩ := I1.tuple hq
  obtain ⟨o2, ho2, hc2, _⟩ := id pl
  have ht : s1.TypeIs (.ref a) "tuple" := ⟨o2, ho2, hc2⟩
  refine ⟨"tuple", "tuple.index", PySem.F.plainAttrs_tuple, PySem.F.slot_tuple_index, PySem.F.type_tuple_index, ht, fun b e => by cases e; exact ⟨ob, hob, hdn⟩, ?_⟩
  have hA := ha.run cpos pins s1 σ H1 _ I1 q1
  rw [hs] at hA ⊢
  refine Calls.callWith_builtin rfl (Calls.evalArgs_plain ?_)
  exact thn hA fun us s2 ⟨vs, H2, I2, r2, k, ek, hq2, hk, q2⟩ => by
    subst ek
    exact mt_tidx X.K rfl pins s2 σ H2 (.ref a) [.int k] (.ref a) us Q I2 rfl r2 ⟨a, ns, k, rfl, rfl, hq2, hk, q2⟩
/-- as spX, the value a tuple that has .index where it is a lot -/
def spXN (K : PySem.W.Frag) (C : Addr) (ok : Int → List (List Int) → PyData → Prop) (g : Int → List (List Int) → PyData → Except (Str × Int) PyData) : Sp :=
  fun vs H Q E => ∃ v u d n rows, vs = [v, u] ∧ Rp K H v (bookD n rows) ∧ Rp K H u d ∧ (isLot n d = true → 0 < (dInts d).length → DN H u) ∧ ok n rows d ∧ Out K C Q E H (g n rows d)
theorem RpAll.len2 {K : PySem.W.Frag} {H : Hp} {xs : List V} {ds : List PyData} (r : RpAll K H xs ds) (h : xs.length = 2) : ∃ x y d e, xs = [x, y] ∧ ds = [d, e] ∧ Rp K H x d ∧ Rp K H y e := by
  cases r with
  | nil => simp at h
  | cons r1 r =>
    cases r with
    | nil => simp at h
    | cons r2 r =>
      cases r with
      | nil => exact ⟨_, _, _, _, rfl, rfl, r1, r2⟩
      | cons r3 r => simp at h
theorem isBook_len {ds : List PyData} (h : ds.length ≠ 2) : false = isBook (.tuple ds) := by
  match ds, h with
  | [], _ => rfl
  | [d1], _ => cases d1 <;> rfl
  | [_, _], h => exact absurd rfl h
  | d1 :: d2 :: _ :: _, _ => cases d1 <;> first | rfl | (cases d2 <;> rfl)
theorem isBook_notInt {d1 d2 : PyData} (z : ∀ i, d1 ≠ .int i) : false = isBook (.tuple [d1, d2]) := by
  cases d1 <;> first | rfl | exact absurd rfl (z _)
theorem isBook_low {n : Int} {d2 : PyData} (z : n < 1) : false = isBook (.tuple [.int n, d2]) := by
  have c3 : ¬ 1 ≤ n := by omega
  cases d2 <;> simp [isBook, c3]
theorem isBook_in {n : Int} {ls : List PyData} (z : ¬ n < 1) : ls.all (isListed n) = isBook (.tuple [.int n, .tuple ls]) := by
  show _ = (decide (1 ≤ n) && ls.all (isListed n))
  rw [decide_eq_true (show 1 ≤ n by omega)]
  rfl
theorem isBook_notTup {n : Int} {d2 : PyData} (z : ∀ l, d2 ≠ .tuple l) : false = isBook (.tuple [.int n, d2]) := by
  cases d2 <;> first | rfl | exact absurd rfl (z _)
/-! ### what a for walks: a list or a tuple -/
def iSeq (K : PySem.W.Frag) (tl : TE) : TI := fun σ H R => tl σ H fun x H1 => ∃ a, x = .ref a ∧ (((∃ xs, SqL K H1 a xs) ∧ R (Itl K a) H1) ∨ ((∃ xs, SqT K H1 a xs) ∧ R (Itt K a) H1))
theorem piS {X : Cx} (K : PySem.W.Frag) {tg l : Expr} {tl : TE} (hl : PE X l tl) (hK : X.K = K := by rfl) : PI X tg l (iSeq K tl) := by
  subst hK
  refine ⟨fun pins s σ H R I h => ?_⟩
  refine thn (hl.run pins s σ H _ I h) fun v s1 ⟨x, H1, I1, r1, q1⟩ => ?_
  obtain ⟨a, e, q1⟩ := q1
  subst e
  cases r1
  rcases q1 with ⟨⟨xs, hq⟩, q⟩ | ⟨⟨xs, hq⟩, q⟩
  · obtain ⟨its, rv, p, hz⟩ := I1.list hq
    refine wpAny_pyIter_list p.isList ?_
    refine ⟨s1.heap.objs.size, [s1.heap.objs.size], _, _, H1, rfl, I1.kept (t' := s1.toks) fun b o e => Heap.get?_push_of_some _ e, turn_list a _, ⟨_, Heap.get?_push_size _ rfl, rfl, rfl⟩, fun b hb => ?_, q⟩
    have e : b = s1.heap.objs.size := by simpa using hb
    subst e
    exact I1.fpOk (Nat.le_refl _) (I1.hok.fresh (Nat.le_refl _))
  · obtain ⟨its, rv, p, hz⟩ := I1.tuple hq
    refine wpAny_pyIter_tuple (show s1.heap.IsTuple a its.toArray from p) ?_
    refine ⟨s1.heap.objs.size, [s1.heap.objs.size], _, _, H1, rfl, I1.kept (t' := s1.toks) fun b o e => Heap.get?_push_of_some _ e, turn_tuple a _, ⟨_, Heap.get?_push_size _ rfl, rfl, rfl⟩, fun b hb => ?_, q⟩
    have e : b = s1.heap.objs.size := by simpa using hb
    subst e
    exact I1.fpOk (Nat.le_refl _) (I1.hok.fresh (Nat.le_refl _))
theorem mono_truth {K : PySem.W.Frag} {i : Nat} : ∀ (σ : L2.St) (H : Hp) (Q Q' : Bool → Hp → Prop), (∀ b H1, Q b H1 → Q' b H1) → (tVar i σ H fun x H' => ∃ k, TruV K x H' k ∧ Q k H') → (tVar i σ H fun x H' => ∃ k, TruV K x H' k ∧ Q' k H') :=
  fun _ _ _ _ hq ⟨v, e, k, t, q⟩ => ⟨v, e, k, t, hq _ _ q⟩
end LK
namespace LK
open PySem PySem.Spec PyProof.Rows L2
def topS (i : Nat) : Stmt := PySem.Challenge.pw_listbylist_k09_whole_over_kept_and_carri.main.body.getD i (.Pass ⟨0, 0, 0, 0⟩)
abbrev s_is_integer : Stmt := topS 1
theorem sc_is_integer : FnScope ["thing"] ["thing"] (defScope s_is_integer) := ⟨rfl, rfl, rfl, by decide +kernel, rfl, by decide +kernel, by decide +kernel⟩
abbrev s_is_number : Stmt := topS 2
theorem sc_is_number : FnScope ["thing"] ["thing"] (defScope s_is_number) := ⟨rfl, rfl, rfl, by decide +kernel, rfl, by decide +kernel, by decide +kernel⟩
abbrev s_is_below : Stmt := topS 3
theorem sc_is_below : FnScope ["size", "thing"] ["size", "thing"] (defScope s_is_below) := ⟨rfl, rfl, rfl, by decide +kernel, rfl, by decide +kernel, by decide +kernel⟩
abbrev s_is_rising : Stmt := topS 4
theorem sc_is_rising : FnScope ["things", "k"] ["things"] (defScope s_is_rising) := ⟨rfl, rfl, rfl, by decide +kernel, rfl, by decide +kernel, by decide +kernel⟩
abbrev s_are_below : Stmt := topS 5
theorem sc_are_below : FnScope ["size", "thing", "one"] ["size", "thing"] (defScope s_are_below) := ⟨rfl, rfl, rfl, by decide +kernel, rfl, by decide +kernel, by decide +kernel⟩
abbrev s_are_unlike_below : Stmt := topS 6
theorem sc_are_unlike_below : FnScope ["size", "thing"] ["size", "thing"] (defScope s_are_unlike_below) := ⟨rfl, rfl, rfl, by decide +kernel, rfl, by decide +kernel, by decide +kernel⟩
abbrev s_is_lot : Stmt := topS 7
theorem sc_is_lot : FnScope ["size", "thing"] ["size", "thing"] (defScope s_is_lot) := ⟨rfl, rfl, rfl, by decide +kernel, rfl, by decide +kernel, by decide +kernel⟩
abbrev s_is_line : Stmt := topS 8
theorem sc_is_line : FnScope ["size", "thing"] ["size", "thing"] (defScope s_is_line) := ⟨rfl, rfl, rfl, by decide +kernel, rfl, by decide +kernel, by decide +kernel⟩
abbrev s_is_listed : Stmt := topS 10
theorem sc_is_listed : FnScope ["size", "thing"] ["size", "thing"] (defScope s_is_listed) := ⟨rfl, rfl, rfl, by decide +kernel, rfl, by decide +kernel, by decide +kernel⟩
abbrev s_is_book : Stmt := topS 11
theorem sc_is_book : FnScope ["thing", "size", "lists", "things"] ["thing"] (defScope s_is_book) := ⟨rfl, rfl, rfl, by decide +kernel, rfl, by decide +kernel, by decide +kernel⟩
abbrev s_are_tied : Stmt := topS 12
theorem sc_are_tied : FnScope ["book", "here", "there", "things"] ["book", "here", "there"] (defScope s_are_tied) := ⟨rfl, rfl, rfl, by decide +kernel, rfl, by decide +kernel, by decide +kernel⟩
abbrev s_is_thing : Stmt := topS 13
theorem sc_is_thing : FnScope ["book", "thing"] ["book", "thing"] (defScope s_is_thing) := ⟨rfl, rfl, rfl, by decide +kernel, rfl, by decide +kernel, by decide +kernel⟩
abbrev s_is_tie : Stmt := topS 14
theorem sc_is_tie : FnScope ["book", "thing"] ["book", "thing"] (defScope s_is_tie) := ⟨rfl, rfl, rfl, by decide +kernel, rfl, by decide +kernel, by decide +kernel⟩
abbrev s_need : Stmt := topS 20
theorem sc_need : FnScope ["holds", "word"] ["holds", "word"] (defScope s_need) := ⟨rfl, rfl, rfl, by decide +kernel, rfl, by decide +kernel, by decide +kernel⟩
abbrev s_kept_to : Stmt := topS 22
theorem sc_kept_to : FnScope ["book", "lot", "kept", "things", "thing"] ["book", "lot"] (defScope s_kept_to) := ⟨rfl, rfl, rfl, by decide +kernel, rfl, by decide +kernel, by decide +kernel⟩
abbrev s_renumbered : Stmt := topS 23
theorem sc_renumbered : FnScope ["book", "line", "numbers", "k", "thing", "things"] ["book", "line"] (defScope s_renumbered) := ⟨rfl, rfl, rfl, by decide +kernel, rfl, by decide +kernel, by decide +kernel⟩
abbrev s_rebased : Stmt := topS 24
theorem sc_rebased : FnScope ["book", "line"] ["book", "line"] (defScope s_rebased) := ⟨rfl, rfl, rfl, by decide +kernel, rfl, by decide +kernel, by decide +kernel⟩
abbrev s_mirrored : Stmt := topS 25
theorem sc_mirrored : FnScope ["book"] ["book"] (defScope s_mirrored) := ⟨rfl, rfl, rfl, by decide +kernel, rfl, by decide +kernel, by decide +kernel⟩
abbrev s_mask_of : Stmt := topS 27
theorem sc_mask_of : FnScope ["things", "mask", "thing"] ["things"] (defScope s_mask_of) := ⟨rfl, rfl, rfl, by decide +kernel, rfl, by decide +kernel, by decide +kernel⟩
abbrev s_things_of : Stmt := topS 28
theorem sc_things_of : FnScope ["mask", "found", "left", "lowest"] ["mask"] (defScope s_things_of) := ⟨rfl, rfl, rfl, by decide +kernel, rfl, by decide +kernel, by decide +kernel⟩
abbrev s_first_of : Stmt := topS 29
theorem sc_first_of : FnScope ["mask", "lowest"] ["mask"] (defScope s_first_of) := ⟨rfl, rfl, rfl, by decide +kernel, rfl, by decide +kernel, by decide +kernel⟩
abbrev s_near_masks : Stmt := topS 30
theorem sc_near_masks : FnScope ["book", "near", "things", "size", "lists", "whole", "thing"] ["book"] (defScope s_near_masks) := ⟨rfl, rfl, rfl, by decide +kernel, rfl, by decide +kernel, by decide +kernel⟩
abbrev s_leading_masks : Stmt := topS 31
theorem sc_leading_masks : FnScope ["book", "ties", "near", "out", "low", "high", "thing"] ["book", "ties"] (defScope s_leading_masks) := ⟨rfl, rfl, rfl, by decide +kernel, rfl, by decide +kernel, by decide +kernel⟩
abbrev s_way_in : Stmt := topS 32
theorem sc_way_in : FnScope ["out", "here", "there", "came", "newest", "way", "reached", "thing", "other"] ["out", "here", "there"] (defScope s_way_in) := ⟨rfl, rfl, rfl, by decide +kernel, rfl, by decide +kernel, by decide +kernel⟩
abbrev s_ahead_behind : Stmt := topS 33
theorem sc_ahead_behind : FnScope ["out", "tie", "low", "high"] ["out", "tie"] (defScope s_ahead_behind) := ⟨rfl, rfl, rfl, by decide +kernel, rfl, by decide +kernel, by decide +kernel⟩
abbrev s_detour : Stmt := topS 34
theorem sc_detour : FnScope ["out", "tie", "cut", "ahead", "behind"] ["out", "tie"] (defScope s_detour) := ⟨rfl, rfl, rfl, by decide +kernel, rfl, by decide +kernel, by decide +kernel⟩
abbrev s_blind_ends : Stmt := topS 35
theorem sc_blind_ends : FnScope ["out", "left", "thing"] ["out", "left"] (defScope s_blind_ends) := ⟨rfl, rfl, rfl, by decide +kernel, rfl, by decide +kernel, by decide +kernel⟩
abbrev s_round_in : Stmt := topS 36
theorem sc_round_in : FnScope ["out", "left", "ends", "walk", "thing"] ["out"] (defScope s_round_in) := ⟨rfl, rfl, rfl, by decide +kernel, rfl, by decide +kernel, by decide +kernel⟩
abbrev s_line_in : Stmt := topS 37
theorem sc_line_in : FnScope ["out", "left", "line", "free", "thing", "other"] ["out"] (defScope s_line_in) := ⟨rfl, rfl, rfl, by decide +kernel, rfl, by decide +kernel, by decide +kernel⟩
abbrev s_ties_of : Stmt := topS 39
theorem sc_ties_of : FnScope ["book", "near", "low", "high"] ["book"] (defScope s_ties_of) := ⟨rfl, rfl, rfl, by decide +kernel, rfl, by decide +kernel, by decide +kernel⟩
abbrev s_is_ties : Stmt := topS 41
theorem sc_is_ties : FnScope ["book", "thing", "tie"] ["book", "thing"] (defScope s_is_ties) := ⟨rfl, rfl, rfl, by decide +kernel, rfl, by decide +kernel, by decide +kernel⟩
abbrev s_is_sorting : Stmt := topS 42
theorem sc_is_sorting : FnScope ["book", "thing"] ["book", "thing"] (defScope s_is_sorting) := ⟨rfl, rfl, rfl, by decide +kernel, rfl, by decide +kernel, by decide +kernel⟩
abbrev s_fitted : Stmt := topS 44
theorem sc_fitted : FnScope ["book", "line", "spots", "k", "thing", "low", "high"] ["book", "line"] (defScope s_fitted) := ⟨rfl, rfl, rfl, by decide +kernel, rfl, by decide +kernel, by decide +kernel⟩
abbrev s_sorting_of : Stmt := topS 45
theorem sc_sorting_of : FnScope ["book", "line"] ["book", "line"] (defScope s_sorting_of) := ⟨rfl, rfl, rfl, by decide +kernel, rfl, by decide +kernel, by decide +kernel⟩
abbrev s_line_of : Stmt := topS 46
theorem sc_line_of : FnScope ["book", "sorting"] ["book", "sorting"] (defScope s_line_of) := ⟨rfl, rfl, rfl, by decide +kernel, rfl, by decide +kernel, by decide +kernel⟩
abbrev s_turned_over : Stmt := topS 48
theorem sc_turned_over : FnScope ["book", "sorting", "tie"] ["book", "sorting"] (defScope s_turned_over) := ⟨rfl, rfl, rfl, by decide +kernel, rfl, by decide +kernel, by decide +kernel⟩
abbrev s_restricted : Stmt := topS 49
theorem sc_restricted : FnScope ["book", "sorting", "lot", "low", "high"] ["book", "sorting", "lot"] (defScope s_restricted) := ⟨rfl, rfl, rfl, by decide +kernel, rfl, by decide +kernel, by decide +kernel⟩
abbrev s_mirrored_sorting : Stmt := topS 50
theorem sc_mirrored_sorting : FnScope ["book", "sorting", "last", "low", "high"] ["book", "sorting"] (defScope s_mirrored_sorting) := ⟨rfl, rfl, rfl, by decide +kernel, rfl, by decide +kernel, by decide +kernel⟩
abbrev s_rebased_sorting : Stmt := topS 51
theorem sc_rebased_sorting : FnScope ["book", "sorting", "line", "numbers", "fitting", "thing", "k"] ["book", "sorting", "line"] (defScope s_rebased_sorting) := ⟨rfl, rfl, rfl, by decide +kernel, rfl, by decide +kernel, by decide +kernel⟩
abbrev s_carried : Stmt := topS 52
theorem sc_carried : FnScope ["book", "sorting", "other"] ["book", "sorting", "other"] (defScope s_carried) := ⟨rfl, rfl, rfl, by decide +kernel, rfl, by decide +kernel, by decide +kernel⟩
abbrev s_are_turned : Stmt := topS 54
theorem sc_are_turned : FnScope ["ties", "sorting", "tie"] ["ties", "sorting"] (defScope s_are_turned) := ⟨rfl, rfl, rfl, by decide +kernel, rfl, by decide +kernel, by decide +kernel⟩
abbrev s_is_beneath : Stmt := topS 55
theorem sc_is_beneath : FnScope ["book", "sorting", "other"] ["book", "sorting", "other"] (defScope s_is_beneath) := ⟨rfl, rfl, rfl, by decide +kernel, rfl, by decide +kernel, by decide +kernel⟩
abbrev s_put_at : Stmt := topS 57
theorem sc_put_at : FnScope ["book", "sorting", "here", "side", "tie"] ["book", "sorting", "here", "side"] (defScope s_put_at) := ⟨rfl, rfl, rfl, by decide +kernel, rfl, by decide +kernel, by decide +kernel⟩
abbrev s_put_first : Stmt := topS 58
theorem sc_put_first : FnScope ["book", "sorting", "here"] ["book", "sorting", "here"] (defScope s_put_first) := ⟨rfl, rfl, rfl, by decide +kernel, rfl, by decide +kernel, by decide +kernel⟩
abbrev s_put_last : Stmt := topS 59
theorem sc_put_last : FnScope ["book", "sorting", "here"] ["book", "sorting", "here"] (defScope s_put_last) := ⟨rfl, rfl, rfl, by decide +kernel, rfl, by decide +kernel, by decide +kernel⟩
abbrev s_order_in : Stmt := topS 61
theorem sc_order_in : FnScope ["out", "things", "ranks", "thing", "_", "other"] ["out", "things"] (defScope s_order_in) := ⟨rfl, rfl, rfl, by decide +kernel, rfl, by decide +kernel, by decide +kernel⟩
abbrev s_orders_in : Stmt := topS 62
theorem sc_orders_in : FnScope ["book", "sorting", "lists", "out", "things"] ["book", "sorting", "lists"] (defScope s_orders_in) := ⟨rfl, rfl, rfl, by decide +kernel, rfl, by decide +kernel, by decide +kernel⟩
abbrev s_own_orders : Stmt := topS 63
theorem sc_own_orders : FnScope ["book", "sorting"] ["book", "sorting"] (defScope s_own_orders) := ⟨rfl, rfl, rfl, by decide +kernel, rfl, by decide +kernel, by decide +kernel⟩
abbrev s_open_ties : Stmt := topS 65
theorem sc_open_ties : FnScope ["book", "sorting", "out", "tie"] ["book", "sorting"] (defScope s_open_ties) := ⟨rfl, rfl, rfl, by decide +kernel, rfl, by decide +kernel, by decide +kernel⟩
abbrev s_falls_of : Stmt := topS 66
theorem sc_falls_of : FnScope ["book", "sorting", "tie"] ["book", "sorting"] (defScope s_falls_of) := ⟨rfl, rfl, rfl, by decide +kernel, rfl, by decide +kernel, by decide +kernel⟩
abbrev s_rises_of : Stmt := topS 67
theorem sc_rises_of : FnScope ["book", "sorting", "tie"] ["book", "sorting"] (defScope s_rises_of) := ⟨rfl, rfl, rfl, by decide +kernel, rfl, by decide +kernel, by decide +kernel⟩
abbrev s__law_tape : Stmt := topS 69
theorem sc__law_tape : FnScope ["_law_script", "_law_state", "_law_big", "_law_cell"] ["_law_script"] (defScope s__law_tape) := ⟨rfl, rfl, rfl, by decide +kernel, rfl, by decide +kernel, by decide +kernel⟩
abbrev s__law_draw : Stmt := topS 70
theorem sc__law_draw : FnScope ["_law_tape_here", "_law_many", "_law_part", "_law_got"] ["_law_tape_here", "_law_many"] (defScope s__law_draw) := ⟨rfl, rfl, rfl, by decide +kernel, rfl, by decide +kernel, by decide +kernel⟩
abbrev s__law_line : Stmt := topS 71
theorem sc__law_line : FnScope ["_law_tape_here", "_law_size", "_law_line_here", "_law_x", "_law_at"] ["_law_tape_here", "_law_size"] (defScope s__law_line) := ⟨rfl, rfl, rfl, by decide +kernel, rfl, by decide +kernel, by decide +kernel⟩
abbrev s__law_parts : Stmt := topS 72
theorem sc__law_parts : FnScope ["_law_tape_here", "_law_shapes", "_law_pick", "_law_parts_here", "_law_wide", "_law_lap", "_law_many", "_law_low", "_law_more", "_law_k"] ["_law_tape_here"] (defScope s__law_parts) := ⟨rfl, rfl, rfl, by decide +kernel, rfl, by decide +kernel, by decide +kernel⟩
abbrev s__law_book : Stmt := topS 73
theorem sc__law_book : FnScope ["_law_tape_here", "_law_parts_here", "_law_size", "_law_part", "_law_names", "_law_x"] ["_law_tape_here"] (defScope s__law_book) := ⟨rfl, rfl, rfl, by decide +kernel, rfl, by decide +kernel, by decide +kernel⟩
abbrev s__law_other : Stmt := topS 74
theorem sc__law_other : FnScope ["_law_tape_here", "_law_web", "_law_size", "_law_names", "_law_pick", "_law_lists", "_law_row", "_law_x"] ["_law_tape_here", "_law_web"] (defScope s__law_other) := ⟨rfl, rfl, rfl, by decide +kernel, rfl, by decide +kernel, by decide +kernel⟩
abbrev s__law_ties : Stmt := topS 75
theorem sc__law_ties : FnScope ["_law_web", "_law_ties_here", "_law_low", "_law_high", "_law_row"] ["_law_web"] (defScope s__law_ties) := ⟨rfl, rfl, rfl, by decide +kernel, rfl, by decide +kernel, by decide +kernel⟩
abbrev s__law_by_line : Stmt := topS 76
theorem sc__law_by_line : FnScope ["_law_ties_here", "_law_line_here", "_law_tie"] ["_law_ties_here", "_law_line_here"] (defScope s__law_by_line) := ⟨rfl, rfl, rfl, by decide +kernel, rfl, by decide +kernel, by decide +kernel⟩
abbrev s__law_least_line : Stmt := topS 77
theorem sc__law_least_line : FnScope ["_law_size", "_law_ties_here", "_law_turned", "_law_line_here", "_law_lap", "_law_behind", "_law_tie", "_law_x"] ["_law_size", "_law_ties_here", "_law_turned"] (defScope s__law_least_line) := ⟨rfl, rfl, rfl, by decide +kernel, rfl, by decide +kernel, by decide +kernel⟩
abbrev s__law_kept_book : Stmt := topS 78
theorem sc__law_kept_book : FnScope ["_law_web", "_law_lot_here", "_law_lists", "_law_row", "_law_part", "_law_x"] ["_law_web", "_law_lot_here"] (defScope s__law_kept_book) := ⟨rfl, rfl, rfl, by decide +kernel, rfl, by decide +kernel, by decide +kernel⟩
abbrev s__law_named : Stmt := topS 79
theorem sc__law_named : FnScope ["_law_web", "_law_names", "_law_row", "_law_x"] ["_law_web", "_law_names"] (defScope s__law_named) := ⟨rfl, rfl, rfl, by decide +kernel, rfl, by decide +kernel, by decide +kernel⟩
abbrev s__law_integer : Stmt := topS 80
theorem sc__law_integer : FnScope ["_law_thing"] ["_law_thing"] (defScope s__law_integer) := ⟨rfl, rfl, rfl, by decide +kernel, rfl, by decide +kernel, by decide +kernel⟩
abbrev s__law_same : Stmt := topS 81
theorem sc__law_same : FnScope ["_law_told", "_law_due", "_law_k"] ["_law_told", "_law_due"] (defScope s__law_same) := ⟨rfl, rfl, rfl, by decide +kernel, rfl, by decide +kernel, by decide +kernel⟩
abbrev s__law_higher : Stmt := topS 82
theorem sc__law_higher : FnScope ["_law_tape_here", "_law_line_here", "_law_k"] ["_law_tape_here", "_law_line_here"] (defScope s__law_higher) := ⟨rfl, rfl, rfl, by decide +kernel, rfl, by decide +kernel, by decide +kernel⟩
abbrev s__law_lot : Stmt := topS 83
theorem sc__law_lot : FnScope ["_law_tape_here", "_law_size", "_law_lot_here", "_law_x"] ["_law_tape_here", "_law_size"] (defScope s__law_lot) := ⟨rfl, rfl, rfl, by decide +kernel, rfl, by decide +kernel, by decide +kernel⟩
abbrev s__law_over_told : Stmt := topS 84
theorem sc__law_over_told : FnScope ["_law_web", "_law_ties_here", "_law_turned", "_law_other_here", "_law_here", "_law_over", "_law_higher_here", "_law_falls", "_law_rises", "_law_beneath", "_law_tie"] ["_law_web", "_law_ties_here", "_law_turned", "_law_other_here", "_law_here"] (defScope s__law_over_told) := ⟨rfl, rfl, rfl, by decide +kernel, rfl, by decide +kernel, by decide +kernel⟩
abbrev s__law_kept_told : Stmt := topS 85
theorem sc__law_kept_told : FnScope ["_law_web", "_law_line_here", "_law_later", "_law_lot_here", "_law_within", "_law_ties_here", "_law_turned", "_law_kept", "_law_due", "_law_other_here", "_law_inner", "_law_once", "_law_beneath", "_law_x", "_law_k", "_law_tie"] ["_law_web", "_law_line_here", "_law_later", "_law_lot_here", "_law_within"] (defScope s__law_kept_told) := ⟨rfl, rfl, rfl, by decide +kernel, rfl, by decide +kernel, by decide +kernel⟩
abbrev s__law_mirrored_told : Stmt := topS 86
theorem sc__law_mirrored_told : FnScope ["_law_web", "_law_turned", "_law_line_here", "_law_size", "_law_glass", "_law_due", "_law_orders", "_law_row", "_law_x", "_law_tie"] ["_law_web", "_law_turned", "_law_line_here"] (defScope s__law_mirrored_told) := ⟨rfl, rfl, rfl, by decide +kernel, rfl, by decide +kernel, by decide +kernel⟩
abbrev s__law_rebased_told : Stmt := topS 87
theorem sc__law_rebased_told : FnScope ["_law_web", "_law_turned", "_law_line_here", "_law_basis", "_law_names", "_law_anew", "_law_due", "_law_orders", "_law_row", "_law_x"] ["_law_web", "_law_turned", "_law_line_here", "_law_basis"] (defScope s__law_rebased_told) := ⟨rfl, rfl, rfl, by decide +kernel, rfl, by decide +kernel, by decide +kernel⟩
abbrev s__law_carried_told : Stmt := topS 88
theorem sc__law_carried_told : FnScope ["_law_web", "_law_ties_here", "_law_turned", "_law_other_here", "_law_first", "_law_due"] ["_law_web", "_law_ties_here", "_law_turned", "_law_other_here"] (defScope s__law_carried_told) := ⟨rfl, rfl, rfl, by decide +kernel, rfl, by decide +kernel, by decide +kernel⟩
abbrev s__law_asked : Stmt := topS 89
theorem sc__law_asked : FnScope ["_law_pick", "_law_web", "_law_turned", "_law_odd"] ["_law_pick", "_law_web", "_law_turned", "_law_odd"] (defScope s__law_asked) := ⟨rfl, rfl, rfl, by decide +kernel, rfl, by decide +kernel, by decide +kernel⟩
abbrev s__law_refusal : Stmt := topS 90
theorem sc__law_refusal : FnScope ["_law_pick", "_law_web", "_law_turned", "_law_odd", "e"] ["_law_pick", "_law_web", "_law_turned", "_law_odd"] (defScope s__law_refusal) := ⟨rfl, rfl, rfl, by decide +kernel, rfl, by decide +kernel, by decide +kernel⟩
abbrev s__law_refused : Stmt := topS 91
theorem sc__law_refused : FnScope ["_law_tape_here", "_law_web", "_law_ties_here", "_law_turned", "_law_line_here", "_law_lot_here", "_law_size", "_law_sortings", "_law_tie", "_law_lots", "_law_lines", "_law_books", "_law_pick", "_law_moved", "_law_kind", "_law_odds", "_law_odd", "_law_due", "_law_one"] ["_law_tape_here", "_law_web", "_law_ties_here", "_law_turned", "_law_line_here", "_law_lot_here"] (defScope s__law_refused) := ⟨rfl, rfl, rfl, by decide +kernel, rfl, by decide +kernel, by decide +kernel⟩
abbrev s_law : Stmt := topS 92
theorem sc_law : FnScope ["_law_script", "_law_tape_here", "_law_web", "_law_size", "_law_ties_here", "_law_line_here", "_law_lot_here", "_law_within", "_law_other_here", "_law_lines", "_law_k", "_law_turned", "_law_later"] ["_law_script"] (defScope s_law) := ⟨rfl, rfl, rfl, by decide +kernel, rfl, by decide +kernel, by decide +kernel⟩
/-- what the top has left: where each def stands; ad, fd by the places of the top's statements -/
structure Txt (K : PySem.W.Frag) (mg : Str → Option Value) (ad : Nat → Addr) (fd : Nat → FuncData) : Prop where
  g_isinstance : mg "isinstance" = none
  g_int : mg "int" = none
  g_bool : mg "bool" = none
  g_tuple : mg "tuple" = none
  g_str : mg "str" = none
  g_list : mg "list" = none
  g_len : mg "len" = none
  g_all : mg "all" = none
  g_any : mg "any" = none
  g_set : mg "set" = none
  g_sorted : mg "sorted" = none
  g_range : mg "range" = none
  g_enumerate : mg "enumerate" = none
  g_sum : mg "sum" = none
  g_min : mg "min" = none
  g_max : mg "max" = none
  g_abs : mg "abs" = none
  g_reversed : mg "reversed" = none
  m_is_integer : mg "is_integer" = some (.ref (ad 1))
  F_is_integer : Fun K "is_integer" "is_integer" s_is_integer (ad 1) (fd 1)
  m_is_number : mg "is_number" = some (.ref (ad 2))
  F_is_number : Fun K "is_number" "is_number" s_is_number (ad 2) (fd 2)
  m_is_below : mg "is_below" = some (.ref (ad 3))
  F_is_below : Fun K "is_below" "is_below" s_is_below (ad 3) (fd 3)
  m_is_rising : mg "is_rising" = some (.ref (ad 4))
  F_is_rising : Fun K "is_rising" "is_rising" s_is_rising (ad 4) (fd 4)
  m_are_below : mg "are_below" = some (.ref (ad 5))
  F_are_below : Fun K "are_below" "are_below" s_are_below (ad 5) (fd 5)
  m_are_unlike_below : mg "are_unlike_below" = some (.ref (ad 6))
  F_are_unlike_below : Fun K "are_unlike_below" "are_unlike_below" s_are_unlike_below (ad 6) (fd 6)
  m_is_lot : mg "is_lot" = some (.ref (ad 7))
  F_is_lot : Fun K "is_lot" "is_lot" s_is_lot (ad 7) (fd 7)
  m_is_line : mg "is_line" = some (.ref (ad 8))
  F_is_line : Fun K "is_line" "is_line" s_is_line (ad 8) (fd 8)
  m_is_listed : mg "is_listed" = some (.ref (ad 10))
  F_is_listed : Fun K "is_listed" "is_listed" s_is_listed (ad 10) (fd 10)
  m_is_book : mg "is_book" = some (.ref (ad 11))
  F_is_book : Fun K "is_book" "is_book" s_is_book (ad 11) (fd 11)
  m_are_tied : mg "are_tied" = some (.ref (ad 12))
  F_are_tied : Fun K "are_tied" "are_tied" s_are_tied (ad 12) (fd 12)
  m_is_thing : mg "is_thing" = some (.ref (ad 13))
  F_is_thing : Fun K "is_thing" "is_thing" s_is_thing (ad 13) (fd 13)
  m_is_tie : mg "is_tie" = some (.ref (ad 14))
  F_is_tie : Fun K "is_tie" "is_tie" s_is_tie (ad 14) (fd 14)
  m_need : mg "need" = some (.ref (ad 20))
  F_need : Fun K "need" "need" s_need (ad 20) (fd 20)
  m_kept_to : mg "kept_to" = some (.ref (ad 22))
  F_kept_to : Fun K "kept_to" "kept_to" s_kept_to (ad 22) (fd 22)
  m_renumbered : mg "renumbered" = some (.ref (ad 23))
  F_renumbered : Fun K "renumbered" "renumbered" s_renumbered (ad 23) (fd 23)
  m_rebased : mg "rebased" = some (.ref (ad 24))
  F_rebased : Fun K "rebased" "rebased" s_rebased (ad 24) (fd 24)
  m_mirrored : mg "mirrored" = some (.ref (ad 25))
  F_mirrored : Fun K "mirrored" "mirrored" s_mirrored (ad 25) (fd 25)
  m_mask_of : mg "mask_of" = some (.ref (ad 27))
  F_mask_of : Fun K "mask_of" "mask_of" s_mask_of (ad 27) (fd 27)
  m_things_of : mg "things_of" = some (.ref (ad 28))
  F_things_of : Fun K "things_of" "things_of" s_things_of (ad 28) (fd 28)
  m_first_of : mg "first_of" = some (.ref (ad 29))
  F_first_of : Fun K "first_of" "first_of" s_first_of (ad 29) (fd 29)
  m_near_masks : mg "near_masks" = some (.ref (ad 30))
  F_near_masks : Fun K "near_masks" "near_masks" s_near_masks (ad 30) (fd 30)
  m_leading_masks : mg "leading_masks" = some (.ref (ad 31))
  F_leading_masks : Fun K "leading_masks" "leading_masks" s_leading_masks (ad 31) (fd 31)
  m_way_in : mg "way_in" = some (.ref (ad 32))
  F_way_in : Fun K "way_in" "way_in" s_way_in (ad 32) (fd 32)
  m_ahead_behind : mg "ahead_behind" = some (.ref (ad 33))
  F_ahead_behind : Fun K "ahead_behind" "ahead_behind" s_ahead_behind (ad 33) (fd 33)
  m_detour : mg "detour" = some (.ref (ad 34))
  F_detour : Fun K "detour" "detour" s_detour (ad 34) (fd 34)
  m_blind_ends : mg "blind_ends" = some (.ref (ad 35))
  F_blind_ends : Fun K "blind_ends" "blind_ends" s_blind_ends (ad 35) (fd 35)
  m_round_in : mg "round_in" = some (.ref (ad 36))
  F_round_in : Fun K "round_in" "round_in" s_round_in (ad 36) (fd 36)
  m_line_in : mg "line_in" = some (.ref (ad 37))
  F_line_in : Fun K "line_in" "line_in" s_line_in (ad 37) (fd 37)
  m_ties_of : mg "ties_of" = some (.ref (ad 39))
  F_ties_of : Fun K "ties_of" "ties_of" s_ties_of (ad 39) (fd 39)
  m_is_ties : mg "is_ties" = some (.ref (ad 41))
  F_is_ties : Fun K "is_ties" "is_ties" s_is_ties (ad 41) (fd 41)
  m_is_sorting : mg "is_sorting" = some (.ref (ad 42))
  F_is_sorting : Fun K "is_sorting" "is_sorting" s_is_sorting (ad 42) (fd 42)
  m_fitted : mg "fitted" = some (.ref (ad 44))
  F_fitted : Fun K "fitted" "fitted" s_fitted (ad 44) (fd 44)
  m_sorting_of : mg "sorting_of" = some (.ref (ad 45))
  F_sorting_of : Fun K "sorting_of" "sorting_of" s_sorting_of (ad 45) (fd 45)
  m_line_of : mg "line_of" = some (.ref (ad 46))
  F_line_of : Fun K "line_of" "line_of" s_line_of (ad 46) (fd 46)
  m_turned_over : mg "turned_over" = some (.ref (ad 48))
  F_turned_over : Fun K "turned_over" "turned_over" s_turned_over (ad 48) (fd 48)
  m_restricted : mg "restricted" = some (.ref (ad 49))
  F_restricted : Fun K "restricted" "restricted" s_restricted (ad 49) (fd 49)
  m_mirrored_sorting : mg "mirrored_sorting" = some (.ref (ad 50))
  F_mirrored_sorting : Fun K "mirrored_sorting" "mirrored_sorting" s_mirrored_sorting (ad 50) (fd 50)
  m_rebased_sorting : mg "rebased_sorting" = some (.ref (ad 51))
  F_rebased_sorting : Fun K "rebased_sorting" "rebased_sorting" s_rebased_sorting (ad 51) (fd 51)
  m_carried : mg "carried" = some (.ref (ad 52))
  F_carried : Fun K "carried" "carried" s_carried (ad 52) (fd 52)
  m_are_turned : mg "are_turned" = some (.ref (ad 54))
  F_are_turned : Fun K "are_turned" "are_turned" s_are_turned (ad 54) (fd 54)
  m_is_beneath : mg "is_beneath" = some (.ref (ad 55))
  F_is_beneath : Fun K "is_beneath" "is_beneath" s_is_beneath (ad 55) (fd 55)
  m_put_at : mg "put_at" = some (.ref (ad 57))
  F_put_at : Fun K "put_at" "put_at" s_put_at (ad 57) (fd 57)
  m_put_first : mg "put_first" = some (.ref (ad 58))
  F_put_first : Fun K "put_first" "put_first" s_put_first (ad 58) (fd 58)
  m_put_last : mg "put_last" = some (.ref (ad 59))
  F_put_last : Fun K "put_last" "put_last" s_put_last (ad 59) (fd 59)
  m_order_in : mg "order_in" = some (.ref (ad 61))
  F_order_in : Fun K "order_in" "order_in" s_order_in (ad 61) (fd 61)
  m_orders_in : mg "orders_in" = some (.ref (ad 62))
  F_orders_in : Fun K "orders_in" "orders_in" s_orders_in (ad 62) (fd 62)
  m_own_orders : mg "own_orders" = some (.ref (ad 63))
  F_own_orders : Fun K "own_orders" "own_orders" s_own_orders (ad 63) (fd 63)
  m_open_ties : mg "open_ties" = some (.ref (ad 65))
  F_open_ties : Fun K "open_ties" "open_ties" s_open_ties (ad 65) (fd 65)
  m_falls_of : mg "falls_of" = some (.ref (ad 66))
  F_falls_of : Fun K "falls_of" "falls_of" s_falls_of (ad 66) (fd 66)
  m_rises_of : mg "rises_of" = some (.ref (ad 67))
  F_rises_of : Fun K "rises_of" "rises_of" s_rises_of (ad 67) (fd 67)
  m__law_tape : mg "_law_tape" = some (.ref (ad 69))
  F__law_tape : Fun K "_law_tape" "_law_tape" s__law_tape (ad 69) (fd 69)
  m__law_draw : mg "_law_draw" = some (.ref (ad 70))
  F__law_draw : Fun K "_law_draw" "_law_draw" s__law_draw (ad 70) (fd 70)
  m__law_line : mg "_law_line" = some (.ref (ad 71))
  F__law_line : Fun K "_law_line" "_law_line" s__law_line (ad 71) (fd 71)
  m__law_parts : mg "_law_parts" = some (.ref (ad 72))
  F__law_parts : Fun K "_law_parts" "_law_parts" s__law_parts (ad 72) (fd 72)
  m__law_book : mg "_law_book" = some (.ref (ad 73))
  F__law_book : Fun K "_law_book" "_law_book" s__law_book (ad 73) (fd 73)
  m__law_other : mg "_law_other" = some (.ref (ad 74))
  F__law_other : Fun K "_law_other" "_law_other" s__law_other (ad 74) (fd 74)
  m__law_ties : mg "_law_ties" = some (.ref (ad 75))
  F__law_ties : Fun K "_law_ties" "_law_ties" s__law_ties (ad 75) (fd 75)
  m__law_by_line : mg "_law_by_line" = some (.ref (ad 76))
  F__law_by_line : Fun K "_law_by_line" "_law_by_line" s__law_by_line (ad 76) (fd 76)
  m__law_least_line : mg "_law_least_line" = some (.ref (ad 77))
  F__law_least_line : Fun K "_law_least_line" "_law_least_line" s__law_least_line (ad 77) (fd 77)
  m__law_kept_book : mg "_law_kept_book" = some (.ref (ad 78))
  F__law_kept_book : Fun K "_law_kept_book" "_law_kept_book" s__law_kept_book (ad 78) (fd 78)
  m__law_named : mg "_law_named" = some (.ref (ad 79))
  F__law_named : Fun K "_law_named" "_law_named" s__law_named (ad 79) (fd 79)
  m__law_integer : mg "_law_integer" = some (.ref (ad 80))
  F__law_integer : Fun K "_law_integer" "_law_integer" s__law_integer (ad 80) (fd 80)
  m__law_same : mg "_law_same" = some (.ref (ad 81))
  F__law_same : Fun K "_law_same" "_law_same" s__law_same (ad 81) (fd 81)
  m__law_higher : mg "_law_higher" = some (.ref (ad 82))
  F__law_higher : Fun K "_law_higher" "_law_higher" s__law_higher (ad 82) (fd 82)
  m__law_lot : mg "_law_lot" = some (.ref (ad 83))
  F__law_lot : Fun K "_law_lot" "_law_lot" s__law_lot (ad 83) (fd 83)
  m__law_over_told : mg "_law_over_told" = some (.ref (ad 84))
  F__law_over_told : Fun K "_law_over_told" "_law_over_told" s__law_over_told (ad 84) (fd 84)
  m__law_kept_told : mg "_law_kept_told" = some (.ref (ad 85))
  F__law_kept_told : Fun K "_law_kept_told" "_law_kept_told" s__law_kept_told (ad 85) (fd 85)
  m__law_mirrored_told : mg "_law_mirrored_told" = some (.ref (ad 86))
  F__law_mirrored_told : Fun K "_law_mirrored_told" "_law_mirrored_told" s__law_mirrored_told (ad 86) (fd 86)
  m__law_rebased_told : mg "_law_rebased_told" = some (.ref (ad 87))
  F__law_rebased_told : Fun K "_law_rebased_told" "_law_rebased_told" s__law_rebased_told (ad 87) (fd 87)
  m__law_carried_told : mg "_law_carried_told" = some (.ref (ad 88))
  F__law_carried_told : Fun K "_law_carried_told" "_law_carried_told" s__law_carried_told (ad 88) (fd 88)
  m__law_asked : mg "_law_asked" = some (.ref (ad 89))
  F__law_asked : Fun K "_law_asked" "_law_asked" s__law_asked (ad 89) (fd 89)
  m__law_refusal : mg "_law_refusal" = some (.ref (ad 90))
  F__law_refusal : Fun K "_law_refusal" "_law_refusal" s__law_refusal (ad 90) (fd 90)
  m__law_refused : mg "_law_refused" = some (.ref (ad 91))
  F__law_refused : Fun K "_law_refused" "_law_refused" s__law_refused (ad 91) (fd 91)
  m_law : mg "law" = some (.ref (ad 92))
  F_law : Fun K "law" "law" s_law (ad 92) (fd 92)
  m_BookError : mg "BookError" = some (.ref (ad 17))
  q_NotUsable_BookError : PySem.W.kitOne K (.ref (ad 18)) (.ref (ad 17)) = some true
  q_NotUsable_InRound : PySem.W.kitOne K (.ref (ad 18)) (.ref (ad 19)) = some false
  xc_NotUsable : ExcC K (ad 18)
  ox_NotUsable : OexC K (ad 18)
  m_NotUsable : mg "NotUsable" = some (.ref (ad 18))
  i_NotUsable : PySem.W.findIn K (.ref (ad 18)) "__init__" = some (some (.ref (ad 1018)))
  t_NotUsable : PySem.W.typeIn K (.ref (ad 1018)) = some (.type "function")
  F_init_NotUsable : Fun K "__init__" "NotUsable.__init__" (inClass (topS 18) 0) (ad 1018) (fd 1018)
  n_NotUsable_word : PySem.W.findIn K (.ref (ad 18)) "word" = some none
  n_NotUsable_at : PySem.W.findIn K (.ref (ad 18)) "at" = some none
  x_NotUsable : XfC K (ad 18)
  e_NotUsable : PySem.W.exmOne K (.ref (ad 18)) (.ref (ad 18)) = some true
  m_InRound : mg "InRound" = some (.ref (ad 19))
section
variable {K : PySem.W.Frag} {mg : Str → Option Value} {ad : Nat → Addr} {fd : Nat → FuncData}
theorem b_is_integer (T : Txt K mg ad fd) : Binds K (fd 1) ["thing"] [] := T.F_is_integer.binds fun _ _ _ _ _ _ us hl => match us, hl with | [_], _ => rfl
theorem b_is_number (T : Txt K mg ad fd) : Binds K (fd 2) ["thing"] [] := T.F_is_number.binds fun _ _ _ _ _ _ us hl => match us, hl with | [_], _ => rfl
theorem b_is_below (T : Txt K mg ad fd) : Binds K (fd 3) ["size", "thing"] [] := T.F_is_below.binds fun _ _ _ _ _ _ us hl => match us, hl with | [_, _], _ => rfl
theorem b_is_rising (T : Txt K mg ad fd) : Binds K (fd 4) ["things"] [] := T.F_is_rising.binds fun _ _ _ _ _ _ us hl => match us, hl with | [_], _ => rfl
theorem b_are_below (T : Txt K mg ad fd) : Binds K (fd 5) ["size", "thing"] [] := T.F_are_below.binds fun _ _ _ _ _ _ us hl => match us, hl with | [_, _], _ => rfl
theorem b_are_unlike_below (T : Txt K mg ad fd) : Binds K (fd 6) ["size", "thing"] [] := T.F_are_unlike_below.binds fun _ _ _ _ _ _ us hl => match us, hl with | [_, _], _ => rfl
theorem b_is_lot (T : Txt K mg ad fd) : Binds K (fd 7) ["size", "thing"] [] := T.F_is_lot.binds fun _ _ _ _ _ _ us hl => match us, hl with | [_, _], _ => rfl
theorem b_is_line (T : Txt K mg ad fd) : Binds K (fd 8) ["size", "thing"] [] := T.F_is_line.binds fun _ _ _ _ _ _ us hl => match us, hl with | [_, _], _ => rfl
theorem b_is_listed (T : Txt K mg ad fd) : Binds K (fd 10) ["size", "thing"] [] := T.F_is_listed.binds fun _ _ _ _ _ _ us hl => match us, hl with | [_, _], _ => rfl
theorem b_is_book (T : Txt K mg ad fd) : Binds K (fd 11) ["thing"] [] := T.F_is_book.binds fun _ _ _ _ _ _ us hl => match us, hl with | [_], _ => rfl
theorem b_are_tied (T : Txt K mg ad fd) : Binds K (fd 12) ["book", "here", "there"] [] := T.F_are_tied.binds fun _ _ _ _ _ _ us hl => match us, hl with | [_, _, _], _ => rfl
theorem b_is_thing (T : Txt K mg ad fd) : Binds K (fd 13) ["book", "thing"] [] := T.F_is_thing.binds fun _ _ _ _ _ _ us hl => match us, hl with | [_, _], _ => rfl
theorem b_is_tie (T : Txt K mg ad fd) : Binds K (fd 14) ["book", "thing"] [] := T.F_is_tie.binds fun _ _ _ _ _ _ us hl => match us, hl with | [_, _], _ => rfl
theorem b_need (T : Txt K mg ad fd) : Binds K (fd 20) ["holds", "word"] [] := T.F_need.binds fun _ _ _ _ _ _ us hl => match us, hl with | [_, _], _ => rfl
theorem b_kept_to (T : Txt K mg ad fd) : Binds K (fd 22) ["book", "lot"] [] := T.F_kept_to.binds fun _ _ _ _ _ _ us hl => match us, hl with | [_, _], _ => rfl
theorem b_renumbered (T : Txt K mg ad fd) : Binds K (fd 23) ["book", "line"] [] := T.F_renumbered.binds fun _ _ _ _ _ _ us hl => match us, hl with | [_, _], _ => rfl
theorem b_rebased (T : Txt K mg ad fd) : Binds K (fd 24) ["book", "line"] [] := T.F_rebased.binds fun _ _ _ _ _ _ us hl => match us, hl with | [_, _], _ => rfl
theorem b_mirrored (T : Txt K mg ad fd) : Binds K (fd 25) ["book"] [] := T.F_mirrored.binds fun _ _ _ _ _ _ us hl => match us, hl with | [_], _ => rfl
theorem b_mask_of (T : Txt K mg ad fd) : Binds K (fd 27) ["things"] [] := T.F_mask_of.binds fun _ _ _ _ _ _ us hl => match us, hl with | [_], _ => rfl
theorem b_things_of (T : Txt K mg ad fd) : Binds K (fd 28) ["mask"] [] := T.F_things_of.binds fun _ _ _ _ _ _ us hl => match us, hl with | [_], _ => rfl
theorem b_first_of (T : Txt K mg ad fd) : Binds K (fd 29) ["mask"] [] := T.F_first_of.binds fun _ _ _ _ _ _ us hl => match us, hl with | [_], _ => rfl
theorem b_near_masks (T : Txt K mg ad fd) : Binds K (fd 30) ["book"] [] := T.F_near_masks.binds fun _ _ _ _ _ _ us hl => match us, hl with | [_], _ => rfl
theorem b_leading_masks (T : Txt K mg ad fd) : Binds K (fd 31) ["book", "ties"] [] := T.F_leading_masks.binds fun _ _ _ _ _ _ us hl => match us, hl with | [_, _], _ => rfl
theorem b_way_in (T : Txt K mg ad fd) : Binds K (fd 32) ["out", "here", "there"] [] := T.F_way_in.binds fun _ _ _ _ _ _ us hl => match us, hl with | [_, _, _], _ => rfl
theorem b_ahead_behind (T : Txt K mg ad fd) : Binds K (fd 33) ["out", "tie"] [] := T.F_ahead_behind.binds fun _ _ _ _ _ _ us hl => match us, hl with | [_, _], _ => rfl
theorem b_detour (T : Txt K mg ad fd) : Binds K (fd 34) ["out", "tie"] [] := T.F_detour.binds fun _ _ _ _ _ _ us hl => match us, hl with | [_, _], _ => rfl
theorem b_blind_ends (T : Txt K mg ad fd) : Binds K (fd 35) ["out", "left"] [] := T.F_blind_ends.binds fun _ _ _ _ _ _ us hl => match us, hl with | [_, _], _ => rfl
theorem b_round_in (T : Txt K mg ad fd) : Binds K (fd 36) ["out"] [] := T.F_round_in.binds fun _ _ _ _ _ _ us hl => match us, hl with | [_], _ => rfl
theorem b_line_in (T : Txt K mg ad fd) : Binds K (fd 37) ["out"] [] := T.F_line_in.binds fun _ _ _ _ _ _ us hl => match us, hl with | [_], _ => rfl
theorem b_ties_of (T : Txt K mg ad fd) : Binds K (fd 39) ["book"] [] := T.F_ties_of.binds fun _ _ _ _ _ _ us hl => match us, hl with | [_], _ => rfl
theorem b_is_ties (T : Txt K mg ad fd) : Binds K (fd 41) ["book", "thing"] [] := T.F_is_ties.binds fun _ _ _ _ _ _ us hl => match us, hl with | [_, _], _ => rfl
theorem b_is_sorting (T : Txt K mg ad fd) : Binds K (fd 42) ["book", "thing"] [] := T.F_is_sorting.binds fun _ _ _ _ _ _ us hl => match us, hl with | [_, _], _ => rfl
theorem b_fitted (T : Txt K mg ad fd) : Binds K (fd 44) ["book", "line"] [] := T.F_fitted.binds fun _ _ _ _ _ _ us hl => match us, hl with | [_, _], _ => rfl
theorem b_sorting_of (T : Txt K mg ad fd) : Binds K (fd 45) ["book", "line"] [] := T.F_sorting_of.binds fun _ _ _ _ _ _ us hl => match us, hl with | [_, _], _ => rfl
theorem b_line_of (T : Txt K mg ad fd) : Binds K (fd 46) ["book", "sorting"] [] := T.F_line_of.binds fun _ _ _ _ _ _ us hl => match us, hl with | [_, _], _ => rfl
theorem b_turned_over (T : Txt K mg ad fd) : Binds K (fd 48) ["book", "sorting"] [] := T.F_turned_over.binds fun _ _ _ _ _ _ us hl => match us, hl with | [_, _], _ => rfl
theorem b_restricted (T : Txt K mg ad fd) : Binds K (fd 49) ["book", "sorting", "lot"] [] := T.F_restricted.binds fun _ _ _ _ _ _ us hl => match us, hl with | [_, _, _], _ => rfl
theorem b_mirrored_sorting (T : Txt K mg ad fd) : Binds K (fd 50) ["book", "sorting"] [] := T.F_mirrored_sorting.binds fun _ _ _ _ _ _ us hl => match us, hl with | [_, _], _ => rfl
theorem b_rebased_sorting (T : Txt K mg ad fd) : Binds K (fd 51) ["book", "sorting", "line"] [] := T.F_rebased_sorting.binds fun _ _ _ _ _ _ us hl => match us, hl with | [_, _, _], _ => rfl
theorem b_carried (T : Txt K mg ad fd) : Binds K (fd 52) ["book", "sorting", "other"] [] := T.F_carried.binds fun _ _ _ _ _ _ us hl => match us, hl with | [_, _, _], _ => rfl
theorem b_are_turned (T : Txt K mg ad fd) : Binds K (fd 54) ["ties", "sorting"] [] := T.F_are_turned.binds fun _ _ _ _ _ _ us hl => match us, hl with | [_, _], _ => rfl
theorem b_is_beneath (T : Txt K mg ad fd) : Binds K (fd 55) ["book", "sorting", "other"] [] := T.F_is_beneath.binds fun _ _ _ _ _ _ us hl => match us, hl with | [_, _, _], _ => rfl
theorem b_put_at (T : Txt K mg ad fd) : Binds K (fd 57) ["book", "sorting", "here", "side"] [] := T.F_put_at.binds fun _ _ _ _ _ _ us hl => match us, hl with | [_, _, _, _], _ => rfl
theorem b_put_first (T : Txt K mg ad fd) : Binds K (fd 58) ["book", "sorting", "here"] [] := T.F_put_first.binds fun _ _ _ _ _ _ us hl => match us, hl with | [_, _, _], _ => rfl
theorem b_put_last (T : Txt K mg ad fd) : Binds K (fd 59) ["book", "sorting", "here"] [] := T.F_put_last.binds fun _ _ _ _ _ _ us hl => match us, hl with | [_, _, _], _ => rfl
theorem b_order_in (T : Txt K mg ad fd) : Binds K (fd 61) ["out", "things"] [] := T.F_order_in.binds fun _ _ _ _ _ _ us hl => match us, hl with | [_, _], _ => rfl
theorem b_orders_in (T : Txt K mg ad fd) : Binds K (fd 62) ["book", "sorting", "lists"] [] := T.F_orders_in.binds fun _ _ _ _ _ _ us hl => match us, hl with | [_, _, _], _ => rfl
theorem b_own_orders (T : Txt K mg ad fd) : Binds K (fd 63) ["book", "sorting"] [] := T.F_own_orders.binds fun _ _ _ _ _ _ us hl => match us, hl with | [_, _], _ => rfl
theorem b_open_ties (T : Txt K mg ad fd) : Binds K (fd 65) ["book", "sorting"] [] := T.F_open_ties.binds fun _ _ _ _ _ _ us hl => match us, hl with | [_, _], _ => rfl
theorem b_falls_of (T : Txt K mg ad fd) : Binds K (fd 66) ["book", "sorting"] [] := T.F_falls_of.binds fun _ _ _ _ _ _ us hl => match us, hl with | [_, _], _ => rfl
theorem b_rises_of (T : Txt K mg ad fd) : Binds K (fd 67) ["book", "sorting"] [] := T.F_rises_of.binds fun _ _ _ _ _ _ us hl => match us, hl with | [_, _], _ => rfl
theorem b__law_tape (T : Txt K mg ad fd) : Binds K (fd 69) ["_law_script"] [] := T.F__law_tape.binds fun _ _ _ _ _ _ us hl => match us, hl with | [_], _ => rfl
theorem b__law_draw (T : Txt K mg ad fd) : Binds K (fd 70) ["_law_tape_here", "_law_many"] [] := T.F__law_draw.binds fun _ _ _ _ _ _ us hl => match us, hl with | [_, _], _ => rfl
theorem b__law_line (T : Txt K mg ad fd) : Binds K (fd 71) ["_law_tape_here", "_law_size"] [] := T.F__law_line.binds fun _ _ _ _ _ _ us hl => match us, hl with | [_, _], _ => rfl
theorem b__law_parts (T : Txt K mg ad fd) : Binds K (fd 72) ["_law_tape_here"] [] := T.F__law_parts.binds fun _ _ _ _ _ _ us hl => match us, hl with | [_], _ => rfl
theorem b__law_book (T : Txt K mg ad fd) : Binds K (fd 73) ["_law_tape_here"] [] := T.F__law_book.binds fun _ _ _ _ _ _ us hl => match us, hl with | [_], _ => rfl
theorem b__law_other (T : Txt K mg ad fd) : Binds K (fd 74) ["_law_tape_here", "_law_web"] [] := T.F__law_other.binds fun _ _ _ _ _ _ us hl => match us, hl with | [_, _], _ => rfl
theorem b__law_ties (T : Txt K mg ad fd) : Binds K (fd 75) ["_law_web"] [] := T.F__law_ties.binds fun _ _ _ _ _ _ us hl => match us, hl with | [_], _ => rfl
theorem b__law_by_line (T : Txt K mg ad fd) : Binds K (fd 76) ["_law_ties_here", "_law_line_here"] [] := T.F__law_by_line.binds fun _ _ _ _ _ _ us hl => match us, hl with | [_, _], _ => rfl
theorem b__law_least_line (T : Txt K mg ad fd) : Binds K (fd 77) ["_law_size", "_law_ties_here", "_law_turned"] [] := T.F__law_least_line.binds fun _ _ _ _ _ _ us hl => match us, hl with | [_, _, _], _ => rfl
theorem b__law_kept_book (T : Txt K mg ad fd) : Binds K (fd 78) ["_law_web", "_law_lot_here"] [] := T.F__law_kept_book.binds fun _ _ _ _ _ _ us hl => match us, hl with | [_, _], _ => rfl
theorem b__law_named (T : Txt K mg ad fd) : Binds K (fd 79) ["_law_web", "_law_names"] [] := T.F__law_named.binds fun _ _ _ _ _ _ us hl => match us, hl with | [_, _], _ => rfl
theorem b__law_integer (T : Txt K mg ad fd) : Binds K (fd 80) ["_law_thing"] [] := T.F__law_integer.binds fun _ _ _ _ _ _ us hl => match us, hl with | [_], _ => rfl
theorem b__law_same (T : Txt K mg ad fd) : Binds K (fd 81) ["_law_told", "_law_due"] [] := T.F__law_same.binds fun _ _ _ _ _ _ us hl => match us, hl with | [_, _], _ => rfl
theorem b__law_higher (T : Txt K mg ad fd) : Binds K (fd 82) ["_law_tape_here", "_law_line_here"] [] := T.F__law_higher.binds fun _ _ _ _ _ _ us hl => match us, hl with | [_, _], _ => rfl
theorem b__law_lot (T : Txt K mg ad fd) : Binds K (fd 83) ["_law_tape_here", "_law_size"] [] := T.F__law_lot.binds fun _ _ _ _ _ _ us hl => match us, hl with | [_, _], _ => rfl
theorem b__law_over_told (T : Txt K mg ad fd) : Binds K (fd 84) ["_law_web", "_law_ties_here", "_law_turned", "_law_other_here", "_law_here"] [] := T.F__law_over_told.binds fun _ _ _ _ _ _ us hl => match us, hl with | [_, _, _, _, _], _ => rfl
theorem b__law_kept_told (T : Txt K mg ad fd) : Binds K (fd 85) ["_law_web", "_law_line_here", "_law_later", "_law_lot_here", "_law_within"] [] := T.F__law_kept_told.binds fun _ _ _ _ _ _ us hl => match us, hl with | [_, _, _, _, _], _ => rfl
theorem b__law_mirrored_told (T : Txt K mg ad fd) : Binds K (fd 86) ["_law_web", "_law_turned", "_law_line_here"] [] := T.F__law_mirrored_told.binds fun _ _ _ _ _ _ us hl => match us, hl with | [_, _, _], _ => rfl
theorem b__law_rebased_told (T : Txt K mg ad fd) : Binds K (fd 87) ["_law_web", "_law_turned", "_law_line_here", "_law_basis"] [] := T.F__law_rebased_told.binds fun _ _ _ _ _ _ us hl => match us, hl with | [_, _, _, _], _ => rfl
theorem b__law_carried_told (T : Txt K mg ad fd) : Binds K (fd 88) ["_law_web", "_law_ties_here", "_law_turned", "_law_other_here"] [] := T.F__law_carried_told.binds fun _ _ _ _ _ _ us hl => match us, hl with | [_, _, _, _], _ => rfl
theorem b__law_asked (T : Txt K mg ad fd) : Binds K (fd 89) ["_law_pick", "_law_web", "_law_turned", "_law_odd"] [] := T.F__law_asked.binds fun _ _ _ _ _ _ us hl => match us, hl with | [_, _, _, _], _ => rfl
theorem b__law_refusal (T : Txt K mg ad fd) : Binds K (fd 90) ["_law_pick", "_law_web", "_law_turned", "_law_odd"] [] := T.F__law_refusal.binds fun _ _ _ _ _ _ us hl => match us, hl with | [_, _, _, _], _ => rfl
theorem b__law_refused (T : Txt K mg ad fd) : Binds K (fd 91) ["_law_tape_here", "_law_web", "_law_ties_here", "_law_turned", "_law_line_here", "_law_lot_here"] [] := T.F__law_refused.binds fun _ _ _ _ _ _ us hl => match us, hl with | [_, _, _, _, _, _], _ => rfl
theorem b_law (T : Txt K mg ad fd) : Binds K (fd 92) ["_law_script"] [] := T.F_law.binds fun _ _ _ _ _ _ us hl => match us, hl with | [_], _ => rfl
abbrev s_init_NotUsable : Stmt := inClass (topS 18) 0
theorem sc_init_NotUsable : FnScope ["self", "word", "at"] ["self", "word", "at"] (defScope s_init_NotUsable) := ⟨rfl, rfl, rfl, by decide +kernel, rfl, by decide +kernel, by decide +kernel⟩
theorem b_init_NotUsable (T : Txt K mg ad fd) : Binds K (fd 1018) ["self", "word", "at"] [] := T.F_init_NotUsable.binds fun _ _ _ _ _ _ us hl => match us, hl with | [_, _, _], _ => rfl
end
end LK
namespace LK
open PySem PySem.Spec PyProof.Rows L2
section
variable {P : Program} {w : World} {K : PySem.W.Frag} {mg : Str → Option Value} {base : Heap} {ad : Nat → Addr} {fd : Nat → FuncData}
theorem ok_is_integer (T : Txt K mg ad fd) : FnOk P w K mg base CX0 1 (ad 1) (fd 1) ["thing"] (spB1 K isInteger) := by
  refine T.F_is_integer.ok sc_is_integer (fun vs H Q E h => ?_) (fun cdv A outer s H vs Q E hr h => ?_)
  · obtain ⟨v, d, rfl, _⟩ := h
    rfl
  · obtain ⟨v, d, rfl, h, k⟩ := h
    refine ⟨_, (pss_one (ps_ret (pe_and (pe_callB (isiR K) (by rfl) T.g_isinstance (by decide +kernel) (pa_cons (pv 0) (pa_cons (pe_bltn (v := .ty "int") (by rfl) T.g_int (by decide +kernel) rfl) pa_nil))) (pe_one (pe_not (pe_callB (isiR K) (by rfl) T.g_isinstance (by decide +kernel) (pa_cons (pv 0) (pa_cons (pe_bltn (v := .ty "bool") (by rfl) T.g_bool (by decide +kernel) rfl) pa_nil)))))))), ?_⟩
    refine ⟨v, rfl, v, .ty "int", _, _, _, rfl, .ty _, h.ty, isi_int h, _, rfl, ?_⟩
    have kk : ∀ b, b = isInteger d → Q (.bl b) H := fun b e => by rw [e]; exact k
    cases e : isIntB d with
    | false => exact iteF (kk _ (by cases d <;> first | rfl | simp [isIntB] at e))
    | true =>
      refine iteT ⟨v, rfl, v, .ty "bool", _, _, _, rfl, .ty _, h.ty, isi_bool h, _, rfl, kk _ ?_⟩
      cases d <;> first | rfl | simp [isIntB] at e
theorem ok_is_number (T : Txt K mg ad fd) : FnOk P w K mg base CX0 2 (ad 2) (fd 2) ["thing"] (spB1 K isNumber) := by
  refine T.F_is_number.ok sc_is_number (fun vs H Q E h => ?_) (fun cdv A outer s H vs Q E hr h => ?_)
  · obtain ⟨v, d, rfl, _⟩ := h
    rfl
  · obtain ⟨v, d, rfl, h, k⟩ := h
    refine ⟨_, (pss_one (ps_ret (pe_and (pe_call (ok_is_integer T) (hr.mono (by decide)) rfl T.m_is_integer T.F_is_integer.kp (b_is_integer T) .nil pass0 (pa_cons (pv 0) pa_nil)) (pe_one (pe_cmpR op_ge (pv 0) pe_int (nomark _)))))), ?_⟩
    refine ⟨v, rfl, v, d, rfl, h, _, rfl, ?_⟩
    cases h with
    | int i => exact iteT ⟨_, rfl, _, _, rfl, rfl, k⟩
    | _ => exact iteF k
theorem ok_is_below (T : Txt K mg ad fd) : FnOk P w K mg base CX0 3 (ad 3) (fd 3) ["size", "thing"] (spIB0 K isBelow) := by
  refine T.F_is_below.ok sc_is_below (fun vs H Q E h => ?_) (fun cdv A outer s H vs Q E hr h => ?_)
  · obtain ⟨n, v, d, rfl, _⟩ := h
    rfl
  · obtain ⟨n, v, d, rfl, h, k⟩ := h
    refine ⟨_, (pss_one (ps_ret (pe_and (pe_call (ok_is_number T) (hr.mono (by decide)) rfl T.m_is_number T.F_is_number.kp (b_is_number T) .nil pass0 (pa_cons (pv 1) pa_nil)) (pe_one (pe_cmpR op_lt (pv 1) (pv 0) (nomark _)))))), ?_⟩
    refine ⟨v, rfl, v, d, rfl, h, _, rfl, ?_⟩
    cases h with
    | int i =>
      have k' : Q (.bl (decide (0 ≤ i ∧ i < n))) H := k
      show if (decide (0 ≤ i)) = true then _ else Q (.bl false) H
      by_cases c : 0 ≤ i
      · rw [decide_eq_true c]
        refine iteT ⟨_, rfl, _, rfl, _, _, rfl, rfl, ?_⟩
        have e : decide (i < n) = decide (0 ≤ i ∧ i < n) := by simp [c]
        show Q (.bl (decide (i < n))) H
        rw [e]
        exact k'
      · rw [decide_eq_false c]
        refine iteF ?_
        have e : false = decide (0 ≤ i ∧ i < n) := by simp [c]
        show Q (.bl false) H
        rw [e]
        exact k'
    | _ => exact iteF k
theorem ok_is_rising (T : Txt K mg ad fd) : FnOk P w K mg base CX0 1 (ad 4) (fd 4) ["things"] (spRising K) := by
  refine T.F_is_rising.ok sc_is_rising (fun vs H Q E h => ?_) (fun cdv A outer s H vs Q E hr h => ?_)
  · obtain ⟨a, ns, rfl, _⟩ := h
    rfl
  · obtain ⟨a, ns, rfl, h, k⟩ := h
    refine ⟨_, (pss_one (ps_ret (pe_callB (allR K) (by rfl) T.g_all (by decide +kernel) (pa_cons (pe_lc (own := [("k", 1)]) (g := gName 1) rfl sc_is_rising.nd (pi_range2 rfl T.g_range (pa_cons pe_int (pa_cons (pe_callB (lenS K) (by rfl) T.g_len (by decide +kernel) (pa_cons (pv 0) pa_nil)) pa_nil))) (blkOk_by (N := ["things", "k"]) (sc := defScope s_is_rising) (by decide +kernel)) (fun _ _ _ _ _ => (pg_name (i := 1) (x := "k") sc_is_rising.nd rfl (Or.inl rfl))) (fun _ _ _ _ _ => pts_nil) (fun _ _ _ _ _ => (pe_cmpR op_lt (pe_ix (ixT K) (pv 0) (pe_op op_sub (pv 1) pe_int) (fun _ _ => rfl)) (pe_ix (ixT K) (pv 0) (pv 1) (fun _ _ => rfl)) (nomark _)))) pa_nil)))), ?_⟩
    have hl := h.2
    have ez : (((ns.map V.int).length : Int) - 1).toNat = ns.length - 1 := by rw [List.length_map]; omega
    refine ⟨_, rfl, _, _, rfl, .inr h.1, _, _, rfl, ⟨by decide, by decide, by rw [List.length_map]; omega, by rw [List.length_map]; omega⟩, fun D hD => ?_⟩
    rw [ez]
    refine lcR (K := K) (lo := 1) (n := ns.length - 1) (fun _ => true) (fun j => .bool (decide (ns.getD j 0 < ns.getD (j + 1) 0))) hD (by omega) (fun _ _ _ => rfl) (fun i H1 hi s1 Q1 Q2 k1 k2 => ?_) (fun ys H1 s1 hy r => ?_)
    · refine ⟨rfl, ?_⟩
      have g1 : (ns.map V.int)[i]? = some (.int (ns.getD i 0)) := mapD (by omega)
      have g2 : (ns.map V.int)[i + 1]? = some (.int (ns.getD (i + 1) 0)) := mapD (by omega)
      refine ⟨_, rfl, _, rfl, _, _, rfl, rfl, _, _, _, _, rfl, rfl, (seqT s1 h.1), at_of (j := i) (by omega) g1, _, rfl, _, rfl, _, _, _, _, rfl, rfl, (seqT s1 h.1), at_of (j := i + 1) (by omega) g2, _, _, rfl, rfl, ?_⟩
      exact k1 rfl _ _ (Same.refl _) (.bl _)
    · rw [filter_true] at r
      have e := RpAll.ofBools (bs := (List.range (ns.length - 1)).map fun j => decide (ns.getD j 0 < ns.getD (j + 1) 0)) (by rw [List.map_map]; exact r)
      subst e
      refine ⟨_, _, rfl, SqL.of hy, ?_⟩
      have e2 : ((List.range (ns.length - 1)).map fun j => decide (ns.getD j 0 < ns.getD (j + 1) 0)).all id = rising ns := rising_all ns
      show Q (.bl _) H1
      rw [e2]
      exact k _ s1
theorem ok_are_below (T : Txt K mg ad fd) : FnOk P w K mg base CX0 4 (ad 5) (fd 5) ["size", "thing"] (spIB K areBelow) := by
  refine T.F_are_below.ok sc_are_below (fun vs H Q E h => ?_) (fun cdv A outer s H vs Q E hr h => ?_)
  · obtain ⟨n, v, d, rfl, _⟩ := h
    rfl
  · obtain ⟨n, v, d, rfl, h, k⟩ := h
    refine ⟨_, (pss_one (ps_ret (pe_and (pe_callB (isiR K) (by rfl) T.g_isinstance (by decide +kernel) (pa_cons (pv 1) (pa_cons (pe_bltn (v := .ty "tuple") (by rfl) T.g_tuple (by decide +kernel) rfl) pa_nil))) (pe_one (pe_callB (allR K) (by rfl) T.g_all (by decide +kernel) (pa_cons (pe_lc (own := [("one", 2)]) (g := gName 2) rfl sc_are_below.nd (piT K (pv 1)) (blkOk_by (N := ["size", "thing", "one"]) (sc := defScope s_are_below) (by decide +kernel)) (fun _ _ _ _ _ => (pg_name (i := 2) (x := "one") sc_are_below.nd rfl (Or.inl rfl))) (fun _ _ _ _ _ => pts_nil) (fun _ _ _ _ _ => (pe_call (ok_is_below T) (hr.mono (by decide)) rfl T.m_is_below T.F_is_below.kp (b_is_below T) .nil pass0 (pa_cons (pv 0) (pa_cons (pv 2) pa_nil))))) pa_nil)))))), ?_⟩
    refine ⟨v, rfl, v, .ty "tuple", _, _, _, rfl, .ty _, h.ty, isi_tuple h, _, rfl, ?_⟩
    cases h with
    | @tup a xs ds s l r =>
      refine iteT ⟨_, rfl, _, rfl, ⟨_, s⟩, fun D hD => ?_⟩
      refine lcT (K := K) (xs := xs) (fun _ => true) (fun j => .bool (isBelow n (ds.getD j .none))) hD s l (fun _ _ _ => rfl) (fun i x H1 hi s1 Q1 Q2 k1 k2 => ?_) (fun ys H1 s1 hy r1 => ?_)
      · obtain ⟨d, hd, rd⟩ := r.get hi
        have ed : ds.getD i .none = d := by rw [List.getD_eq_getElem?_getD, hd]; rfl
        refine ⟨rfl, _, rfl, _, rfl, n, x, d, rfl, rd.same s1, ?_⟩
        refine k1 rfl _ _ (Same.refl _) ?_
        rw [ed]
        exact .bl _
      · rw [filter_true] at r1
        have e := RpAll.ofBools (bs := (List.range xs.length).map fun j => isBelow n (ds.getD j .none)) (by rw [List.map_map]; exact r1)
        subst e
        refine ⟨_, _, rfl, SqL.of hy, ?_⟩
        have e2 : ((List.range xs.length).map fun j => isBelow n (ds.getD j .none)).all id = areBelow n (.tuple ds) := by
          rw [r.length]
          exact all_range (isBelow n) .none ds
        show Q (.bl _) H1
        rw [e2]
        exact k _ s1
    | _ => exact iteF (k _ (Same.refl _))
theorem ok_is_lot (T : Txt K mg ad fd) : FnOk P w K mg base CX0 5 (ad 7) (fd 7) ["size", "thing"] (spIB K isLot) := by
  refine T.F_is_lot.ok sc_is_lot (fun vs H Q E h => ?_) (fun cdv A outer s H vs Q E hr h => ?_)
  · obtain ⟨n, v, d, rfl, _⟩ := h
    rfl
  · obtain ⟨n, v, d, rfl, h, k⟩ := h
    refine ⟨_, (pss_one (ps_ret (pe_and (pe_call (ok_are_below T) (hr.mono (by decide)) rfl T.m_are_below T.F_are_below.kp (b_are_below T) .nil pass0 (pa_cons (pv 0) (pa_cons (pv 1) pa_nil))) (pe_one (pe_call (ok_is_rising T) (hr.mono (by decide)) rfl T.m_is_rising T.F_is_rising.kp (b_is_rising T) .nil pass0 (pa_cons (pv 1) pa_nil)))))), ?_⟩
    refine ⟨_, rfl, _, rfl, n, v, d, rfl, h, fun H1 s1 => ⟨_, rfl, ?_⟩⟩
    have k' : ∀ b, b = isLot n d → ∀ H', Same H H' → Q (.bl b) H' := fun b e => by rw [e]; exact k
    cases e : areBelow n d with
    | false => exact iteF (k' _ (by simp [isLot, e]) _ s1)
    | true =>
      have ed := areBelow_tup e
      rw [ed] at h
      obtain ⟨a, rfl, ta⟩ := h.tupI
      exact iteT ⟨_, rfl, a, _, rfl, ta.same s1, fun H2 s2 => k' _ (by simp [isLot, e]) _ (s1.trans s2)⟩
end
end LK
namespace LK
open PySem PySem.Spec PyProof.Rows L2
section
variable {P : Program} {w : World} {K : PySem.W.Frag} {mg : Str → Option Value} {base : Heap} {ad : Nat → Addr} {fd : Nat → FuncData}
theorem ok_are_unlike_below (T : Txt K mg ad fd) : FnOk P w K mg base CX0 5 (ad 6) (fd 6) ["size", "thing"] (spIB K areUnlike) := by
  refine T.F_are_unlike_below.ok sc_are_unlike_below (fun vs H Q E h => ?_) (fun cdv A outer s H vs Q E hr h => ?_)
  · obtain ⟨n, v, d, rfl, _⟩ := h
    rfl
  · obtain ⟨n, v, d, rfl, h, k⟩ := h
    refine ⟨_, (pss_one (ps_ret (pe_and (pe_call (ok_are_below T) (hr.mono (by decide)) rfl T.m_are_below T.F_are_below.kp (b_are_below T) .nil pass0 (pa_cons (pv 0) (pa_cons (pv 1) pa_nil))) (pe_one (pe_cmpR op_eq (pe_lenSetT rfl rfl T.g_len rfl T.g_set (pv 1)) (pe_callB (lenS K) (by rfl) T.g_len (by decide +kernel) (pa_cons (pv 1) pa_nil)) (nomark _)))))), ?_⟩
    refine ⟨_, rfl, _, rfl, n, v, d, rfl, h, fun H1 s1 => ⟨_, rfl, ?_⟩⟩
    have k' : ∀ b, b = areUnlike n d → Q (.bl b) H1 := fun b e => by rw [e]; exact k _ s1
    cases e : areBelow n d with
    | false => exact iteF (k' _ (by simp [areUnlike, e]))
    | true =>
      have ed := areBelow_tup e
      rw [ed] at h
      obtain ⟨a, rfl, ta⟩ := h.tupI
      have ta := ta.same s1
      refine iteT ⟨_, rfl, a, _, rfl, ta.1, ta.2, fun c hc => ⟨_, rfl, _, _, rfl, .inr ta.1, rfl, ?_⟩⟩
      refine k' _ ?_
      unfold areUnlike
      rw [e, Bool.true_and, List.length_map]
      by_cases nd : (dInts d).Nodup
      · rw [decide_eq_true nd]
        exact decide_eq_true (by rw [hc.mpr nd])
      · rw [decide_eq_false nd]
        exact decide_eq_false (fun z => nd (hc.mp (by injection z with z; omega)))
theorem ok_is_line (T : Txt K mg ad fd) : FnOk P w K mg base CX0 6 (ad 8) (fd 8) ["size", "thing"] (spIB K isLine) := by
  refine T.F_is_line.ok sc_is_line (fun vs H Q E h => ?_) (fun cdv A outer s H vs Q E hr h => ?_)
  · obtain ⟨n, v, d, rfl, _⟩ := h
    rfl
  · obtain ⟨n, v, d, rfl, h, k⟩ := h
    refine ⟨_, (pss_one (ps_ret (pe_and (pe_call (ok_are_unlike_below T) (hr.mono (by decide)) rfl T.m_are_unlike_below T.F_are_unlike_below.kp (b_are_unlike_below T) .nil pass0 (pa_cons (pv 0) (pa_cons (pv 1) pa_nil))) (pe_one (pe_cmpR op_eq (pe_callB (lenS K) (by rfl) T.g_len (by decide +kernel) (pa_cons (pv 1) pa_nil)) (pv 0) (nomark _)))))), ?_⟩
    refine ⟨_, rfl, _, rfl, n, v, d, rfl, h, fun H1 s1 => ⟨_, rfl, ?_⟩⟩
    have k' : ∀ b, b = isLine n d → Q (.bl b) H1 := fun b e => by rw [e]; exact k _ s1
    cases e : areUnlike n d with
    | false => exact iteF (k' _ (by simp [isLine, e]))
    | true =>
      have e2 : areBelow n d = true := by
        unfold areUnlike at e
        rw [Bool.and_eq_true] at e
        exact e.1
      have ed := areBelow_tup e2
      rw [ed] at h
      obtain ⟨a, rfl, ta⟩ := h.tupI
      have ta := ta.same s1
      refine iteT ⟨_, rfl, _, _, rfl, .inr ta.1, _, rfl, rfl, ?_⟩
      refine k' _ ?_
      unfold isLine
      rw [e, Bool.true_and, List.length_map]
      by_cases c : ((dInts d).length : Int) = n
      · rw [decide_eq_true c]
        exact decide_eq_true (by rw [c])
      · rw [decide_eq_false c]
        exact decide_eq_false (fun z => c (by injection z))
theorem ok_is_listed (T : Txt K mg ad fd) : FnOk P w K mg base CX0 6 (ad 10) (fd 10) ["size", "thing"] (spIB K isListed) := by
  refine T.F_is_listed.ok sc_is_listed (fun vs H Q E h => ?_) (fun cdv A outer s H vs Q E hr h => ?_)
  · obtain ⟨n, v, d, rfl, _⟩ := h
    rfl
  · obtain ⟨n, v, d, rfl, h, k⟩ := h
    refine ⟨_, (pss_one (ps_ret (pe_and (pe_call (ok_is_lot T) (hr.mono (by decide)) rfl T.m_is_lot T.F_is_lot.kp (b_is_lot T) .nil pass0 (pa_cons (pv 0) (pa_cons (pv 1) pa_nil))) (pe_one (pe_cmpR op_ge (pe_callB (lenS K) (by rfl) T.g_len (by decide +kernel) (pa_cons (pv 1) pa_nil)) pe_int (nomark _)))))), ?_⟩
    refine ⟨_, rfl, _, rfl, n, v, d, rfl, h, fun H1 s1 => ⟨_, rfl, ?_⟩⟩
    have k' : ∀ b, b = isListed n d → Q (.bl b) H1 := fun b e => by rw [e]; exact k _ s1
    cases e : isLot n d with
    | false => exact iteF (k' _ (by simp [isListed, e]))
    | true =>
      have e2 : areBelow n d = true := by
        unfold isLot at e
        rw [Bool.and_eq_true] at e
        exact e.1
      have ed := areBelow_tup e2
      rw [ed] at h
      obtain ⟨a, rfl, ta⟩ := h.tupI
      have ta := ta.same s1
      refine iteT ⟨_, rfl, _, _, rfl, .inr ta.1, _, _, rfl, rfl, ?_⟩
      refine k' _ ?_
      unfold isListed
      rw [e, Bool.true_and, List.length_map]
      by_cases c : 2 ≤ (dInts d).length
      · rw [decide_eq_true c]
        exact decide_eq_true (by omega)
      · rw [decide_eq_false c]
        exact decide_eq_false (by omega)
theorem ok_are_tied (T : Txt K mg ad fd) : FnOk P w K mg base CX0 1 (ad 12) (fd 12) ["book", "here", "there"] (spTied K) := by
  refine T.F_are_tied.ok sc_are_tied (fun vs H Q E h => ?_) (fun cdv A outer s H vs Q E hr h => ?_)
  · obtain ⟨v, x, y, n, rows, rfl, _⟩ := h
    rfl
  · obtain ⟨v, x, y, n, rows, rfl, h, k⟩ := h
    obtain ⟨b, L, xs, rfl, hb, hL, hz, hr2⟩ := rp_book h
    refine ⟨_, (pss_one (ps_ret (pe_callB (anyR K) (by rfl) T.g_any (by decide +kernel) (pa_cons (pe_lc (own := [("things", 3)]) (g := gName 3) rfl sc_are_tied.nd (piT K (pe_ix (ixT K) (pv 0) pe_int (fun _ _ => rfl))) (blkOk_by (N := ["book", "here", "there", "things"]) (sc := defScope s_are_tied) (by decide +kernel)) (fun _ _ _ _ _ => (pg_name (i := 3) (x := "things") sc_are_tied.nd rfl (Or.inl rfl))) (fun _ _ _ _ _ => pts_nil) (fun _ _ _ _ _ => (pe_and (pe_cmpR (inS K) (pv 1) (pv 3) (by with_unfolding_all rfl)) (pe_one (pe_cmpR (inS K) (pv 2) (pv 3) (by with_unfolding_all rfl)))))) pa_nil)))), ?_⟩
    refine ⟨_, rfl, _, _, _, _, rfl, rfl, hb, rfl, L, rfl, ⟨_, hL⟩, fun D hD => ?_⟩
    refine lcT (K := K) (xs := xs) (fun _ => true) (fun j => .bool (decide (x ∈ rows.getD j []) && decide (y ∈ rows.getD j []))) hD hL hz (fun _ _ _ => rfl) (fun i v H1 hi s1 Q1 Q2 k1 k2 => ?_) (fun ys H1 s1 hy r => ?_)
    · obtain ⟨ns, a, hn, rfl, t⟩ := hr2.row hi
      have t := t.same s1
      have en : rows.getD i [] = ns := by rw [List.getD_eq_getElem?_getD, hn]; rfl
      refine ⟨rfl, _, rfl, _, rfl, a, _, rfl, .inr t.1, rfl, flat_ints ns, _, rfl, ?_⟩
      show if inV (.int x) (ns.map V.int) = true then _ else _
      rw [inV_int]
      have k1' : ∀ b, b = (decide (x ∈ rows.getD i []) && decide (y ∈ rows.getD i [])) → Q1 (.bl b) H1 := fun b e => k1 rfl _ _ (Same.refl _) (by rw [e]; exact .bl _)
      rw [en] at k1'
      cases c : decide (x ∈ ns) with
      | false => exact iteF (k1' _ (by rw [c]; rfl))
      | true =>
        refine iteT ⟨_, rfl, _, rfl, a, _, rfl, .inr t.1, rfl, flat_ints ns, ?_⟩
        show Q1 (.bl (inV (.int y) (ns.map V.int))) H1
        rw [inV_int]
        exact k1' _ (by rw [c]; rfl)
    · rw [filter_true] at r
      have e := RpAll.ofBools (bs := (List.range xs.length).map fun j => (decide (x ∈ rows.getD j []) && decide (y ∈ rows.getD j []))) (by rw [List.map_map]; exact r)
      subst e
      refine ⟨_, _, rfl, SqL.of hy, ?_⟩
      have el : xs.length = rows.length := by rw [hr2.length, List.length_map]
      have e2 : ((List.range xs.length).map fun j => (decide (x ∈ rows.getD j []) && decide (y ∈ rows.getD j []))).any id = tiedB rows x y := by
        rw [el]
        exact any_range (fun r : List Int => decide (x ∈ r) && decide (y ∈ r)) [] rows
      show Q (.bl _) H1
      rw [e2]
      exact k _ s1
theorem ok_is_thing (T : Txt K mg ad fd) : FnOk P w K mg base CX0 4 (ad 13) (fd 13) ["book", "thing"] (spBB0 K fun n _ d => isBelow n d) := by
  refine T.F_is_thing.ok sc_is_thing (fun vs H Q E h => ?_) (fun cdv A outer s H vs Q E hr h => ?_)
  · obtain ⟨v, u, d, n, rows, rfl, _⟩ := h
    rfl
  · obtain ⟨v, u, d, n, rows, rfl, h, hu, k⟩ := h
    obtain ⟨b, L, xs, rfl, hb, hL, hz, hr2⟩ := rp_book h
    refine ⟨_, (pss_one (ps_ret (pe_call (ok_is_below T) (hr.mono (by decide)) rfl T.m_is_below T.F_is_below.kp (b_is_below T) .nil pass0 (pa_cons (pe_ix (ixT K) (pv 0) pe_int (fun _ _ => rfl)) (pa_cons (pv 1) pa_nil))))), ?_⟩
    exact ⟨_, rfl, _, _, _, _, rfl, rfl, hb, rfl, _, rfl, n, u, d, rfl, hu, k⟩
theorem ok_is_tie (T : Txt K mg ad fd) : FnOk P w K mg base CX0 6 (ad 14) (fd 14) ["book", "thing"] (spBB K isTie) := by
  refine T.F_is_tie.ok sc_is_tie (fun vs H Q E h => ?_) (fun cdv A outer s H vs Q E hr h => ?_)
  · obtain ⟨v, u, d, n, rows, rfl, _⟩ := h
    rfl
  · obtain ⟨v, u, d, n, rows, rfl, h, hu, k⟩ := h
    obtain ⟨b, L, xs, rfl, hb, hL, hz, hr2⟩ := rp_book h
    refine ⟨_, (pss_one (ps_ret (pe_and (pe_call (ok_is_lot T) (hr.mono (by decide)) rfl T.m_is_lot T.F_is_lot.kp (b_is_lot T) .nil pass0 (pa_cons (pe_ix (ixT K) (pv 0) pe_int (fun _ _ => rfl)) (pa_cons (pv 1) pa_nil))) (pe_and (pe_cmpR op_eq (pe_callB (lenS K) (by rfl) T.g_len (by decide +kernel) (pa_cons (pv 1) pa_nil)) pe_int (nomark _)) (pe_one (pe_call (ok_are_tied T) (hr.mono (by decide)) rfl T.m_are_tied T.F_are_tied.kp (b_are_tied T) .nil pass0 (pa_cons (pv 0) (pa_cons (pe_ix (ixT K) (pv 1) pe_int (fun _ _ => rfl)) (pa_cons (pe_ix (ixT K) (pv 1) pe_int (fun _ _ => rfl)) pa_nil))))))))), ?_⟩
    refine ⟨_, rfl, _, _, _, _, rfl, rfl, hb, rfl, _, rfl, n, u, d, rfl, hu, fun H1 s1 => ⟨_, rfl, ?_⟩⟩
    have k' : ∀ b H', Same H H' → b = isTie n rows d → Q (.bl b) H' := fun b H' s e => by rw [e]; exact k _ s
    cases e : isLot n d with
    | false => exact iteF (k' _ _ s1 (by simp [isTie, e]))
    | true =>
      have e2 : areBelow n d = true := by
        unfold isLot at e
        rw [Bool.and_eq_true] at e
        exact e.1
      have ed := areBelow_tup e2
      rw [ed] at hu
      obtain ⟨a, rfl, ta⟩ := hu.tupI
      have ta := ta.same s1
      have hb := seqT s1 hb
      refine iteT ⟨_, rfl, _, _, rfl, .inr ta.1, rfl, _, rfl, ?_⟩
      rw [List.length_map]
      by_cases c : (dInts d).length = 2
      · have c1 : decide (V.int ((dInts d).length : Nat) = V.int 2) = true := decide_eq_true (by rw [c]; rfl)
        rw [c1]
        have g0 : ((dInts d).map V.int)[0]? = some (.int ((dInts d).getD 0 0)) := mapD (by omega)
        have g1 : ((dInts d).map V.int)[1]? = some (.int ((dInts d).getD 1 0)) := mapD (by omega)
        refine iteT ⟨_, rfl, _, rfl, _, _, _, _, rfl, rfl, ta.1, at_of (j := 0) rfl g0, _, rfl, _, _, _, _, rfl, rfl, ta.1, at_of (j := 1) rfl g1, _, _, _, n, rows, rfl, h.same s1, fun H2 s2 => ?_⟩
        exact k' _ _ (s1.trans s2) (by simp [isTie, e, c])
      · have c1 : decide (V.int ((dInts d).length : Nat) = V.int 2) = false := decide_eq_false (fun z => c (by injection z with z; omega))
        rw [c1]
        exact iteF (k' _ _ s1 (by simp [isTie, e, c]))
end
end LK
namespace LK
open PySem PySem.Spec PyProof.Rows L2
section
variable {P : Program} {w : World} {K : PySem.W.Frag} {mg : Str → Option Value} {base : Heap} {ad : Nat → Addr} {fd : Nat → FuncData}
theorem ok_init_NotUsable (T : Txt K mg ad fd) : FnOk P w K mg base CX0 1 (ad 1018) (fd 1018) ["self", "word", "at"] (spInit2 (ad 18)) := by
  refine T.F_init_NotUsable.ok sc_init_NotUsable (fun vs H Q E h => ?_) (fun cdv A outer s H vs Q E hr h => ?_)
  · obtain ⟨a, x, t, rfl, _⟩ := h
    rfl
  · obtain ⟨a, x, t, rfl, ha, k⟩ := h
    refine ⟨_, pss_cons (ps_ost (pv 0) (pv 1)) (pss_one (ps_ost (pv 0) (pv 2))), ?_⟩
    refine ⟨_, rfl, _, rfl, a, _, rfl, T.ox_NotUsable, T.n_NotUsable_word, .inl ⟨ha, fun dx hd hda => ?_⟩⟩
    refine ⟨_, rfl, _, rfl, a, _, rfl, T.ox_NotUsable, T.n_NotUsable_at, .inr ⟨dx, _, upd_same, ?_, (by show 1 ≤ 900; decide), k dx hd hda⟩⟩
    rw [upd_ne hda, upd_same]
theorem ok_need (T : Txt K mg ad fd) : FnOk P w K mg base (L2.CX P w) 3 (ad 20) (fd 20) ["holds", "word"] (spNeed (ad 18)) := by
  refine T.F_need.okX sc_need (fun vs H Q E h => ?_) (fun cdv A outer s H vs Q E hr h => ?_)
  · obtain ⟨b, word, rfl, _⟩ := h
    rfl
  · obtain ⟨b, word, rfl, k1, k2⟩ := h
    refine ⟨_, (pss_one (ps_if (pt_not (pt_truth (pv 0) (by intro _; rfl))) (pss_one (ps_raise rfl (takes_of rfl rfl rfl rfl) (pmk_oex T.ox_NotUsable T.i_NotUsable T.t_NotUsable (ok_init_NotUsable T) (hr.mono (by decide)) (b_init_NotUsable T) .nil pass0 rfl T.m_NotUsable (pa_cons (pv 1) (pa_cons (pe_un un_neg pe_int) pa_nil)))))
  pss_nil)), ?_⟩
    refine ⟨_, rfl, b, rfl, ?_⟩
    cases b with
    | true => exact iteF (k1 rfl)
    | false =>
      refine iteT ?_
      exact raise2 (k2 rfl) fun Q hq => ⟨_, rfl, _, rfl, hq⟩
theorem ok_kept_to (T : Txt K mg ad fd) : FnOk P w K mg base (L2.CX P w) 6 (ad 22) (fd 22) ["book", "lot"] (spXN K (ad 18) (fun _ _ _ => True) keptTo) := by
  refine T.F_kept_to.okX sc_kept_to (fun vs H Q E h => ?_) (fun cdv A outer s H vs Q E hr h => ?_)
  · obtain ⟨v, u, d, n, rows, rfl, _⟩ := h
    rfl
  · obtain ⟨v, u, d, n, rows, rfl, h, hu, dn, _, k⟩ := h
    obtain ⟨b, L, xs, rfl, hb, hL, hz, hr2⟩ := rp_book h
    refine ⟨_, (pss_cons (ps_expr (pe_call (ok_need T) (hr.mono (by decide)) rfl T.m_need T.F_need.kp (b_need T) .nil (passes_call (takes_of rfl rfl rfl rfl) fun _ _ _ _ h => h) (pa_cons (pe_and (pe_call (ok_is_lot T) (hr.mono (by decide)) rfl T.m_is_lot T.F_is_lot.kp (b_is_lot T) .nil pass0 (pa_cons (pe_ix (ixT K) (pv 0) pe_int (fun _ _ => rfl)) (pa_cons (pv 1) pa_nil))) (pe_one (pe_cmpR op_gt (pe_callB (lenS K) (by rfl) T.g_len (by decide +kernel) (pa_cons (pv 1) pa_nil)) pe_int (nomark _)))) (pa_cons pe_str pa_nil))))
  (pss_cons (ps_setLc (i := 2) (own := [("things", 3)]) (g := gName 3) rfl sc_kept_to.nd rfl rfl (sw_true rfl rfl rfl (by decide +kernel)) (piT K (pe_ix (ixT K) (pv 0) pe_int (fun _ _ => rfl))) (blkOk_by (N := ["book", "lot", "kept", "things", "thing"]) (sc := defScope s_kept_to) (by decide +kernel)) (fun _ _ _ _ _ => (pg_name (i := 3) (x := "things") sc_kept_to.nd rfl (Or.inl rfl))) (fun _ _ _ _ _ => pts_nil) (fun _ _ _ _ _ => (pe_callTy (tupOf K) (by rfl) T.g_tuple (by decide +kernel) (pa_cons (pe_lc (own := [("thing", 4)]) (g := gName 4) rfl sc_kept_to.nd (piT K (pv 3)) (blkOk_by (N := ["book", "lot", "kept", "things", "thing"]) (sc := { kind := PySem.ScopeKind.function, names := [ (PySem.Str.ofString ".0", PySem.NameKind.local), (PySem.Str.ofString "things", PySem.NameKind.local), (PySem.Str.ofString "tuple", PySem.NameKind.globalImplicit), (PySem.Str.ofString "lot", PySem.NameKind.cell)], isGenerator := false, isCoroutine := false, more := [] : PySem.Scope }) (by decide +kernel)) (fun _ _ _ _ _ => (pg_name (i := 4) (x := "thing") sc_kept_to.nd rfl (Or.inl rfl))) (fun _ _ _ _ _ => (pts_one (pt_cmpR (inS K) (pv 4) (pv 1) (by with_unfolding_all rfl)))) (fun _ _ _ _ _ => (pe_tidx (K := K) (pv 1) (pa_cons (pv 4) pa_nil)))) pa_nil))))
  (pss_one (ps_ret (pe_tup (pa_cons (pe_callB (lenS K) (by rfl) T.g_len (by decide +kernel) (pa_cons (pv 1) pa_nil)) (pa_cons (pe_callTy (tupOf K) (by rfl) T.g_tuple (by decide +kernel) (pa_cons (pe_lc (own := [("things", 3)]) (g := gName 3) rfl sc_kept_to.nd (piL K (pv 2)) (blkOk_by (N := ["book", "lot", "kept", "things", "thing"]) (sc := defScope s_kept_to) (by decide +kernel)) (fun _ _ _ _ _ => (pg_name (i := 3) (x := "things") sc_kept_to.nd rfl (Or.inl rfl))) (fun _ _ _ _ _ => (pts_one (pt_cmpR op_ge (pe_callB (lenS K) (by rfl) T.g_len (by decide +kernel) (pa_cons (pv 3) pa_nil)) pe_int (nomark _)))) (fun _ _ _ _ _ => (pv 3))) pa_nil)) pa_nil))))))), ?_⟩
    refine ⟨_, rfl, _, _, _, _, rfl, rfl, hb, rfl, _, rfl, n, u, d, rfl, hu, fun H1 s1 => ⟨_, rfl, ?_⟩⟩
    cases e : isLot n d with
    | false =>
      have ek : keptTo n rows d = .error ("lot", -1) := by simp [keptTo, e]
      rw [ek] at k
      refine iteF ⟨false, _, rfl, (fun z => by cases z), fun _ => k.same s1⟩
    | true =>
      have e2 : areBelow n d = true := by
        unfold isLot at e
        rw [Bool.and_eq_true] at e
        exact e.1
      have ed := areBelow_tup e2
      rw [ed] at hu
      obtain ⟨a, rfl, ta⟩ := hu.tupI
      generalize hlot : dInts d = lot at *
      have ta1 := ta.same s1
      refine iteT ⟨_, rfl, _, _, rfl, .inr ta1.1, _, _, rfl, rfl, _, _, rfl, (fun hc => ?_), fun hc => ?_⟩
      rotate_left
      · have ek : keptTo n rows d = .error ("lot", -1) := by
          unfold keptTo
          rw [e, hlot, if_neg]
          simp only [List.length_map] at hc
          simp
          simp at hc
          exact hc
        rw [ek] at k
        exact k.same s1
      have hpos : 0 < lot.length := by
        simp only [List.length_map] at hc
        simpa using hc
      have ek : keptTo n rows d = .ok (bookD lot.length (keptRows lot rows)) := by
        unfold keptTo
        rw [e, hlot, if_pos]
        simpa using hpos
      rw [ek] at k
      -- kept
      refine ⟨_, rfl, _, _, _, _, rfl, rfl, seqT s1 hb, rfl, L, rfl, ⟨_, seqT s1 hL⟩, fun D hD => ?_⟩
      refine lcT (K := K) (xs := xs) (fun _ => true) (fun j => dTup (keptRow lot (rows.getD j []))) hD (seqT s1 hL) hz (fun j _ _ => noL_dTup _) (fun i v H2 hi s2 Q1 Q2 k1 k2 => ?_) (fun ys H2 s2 hy r2 => ?_)
      · obtain ⟨ns, a2, hn, rfl, t⟩ := hr2.row hi
        have s02 := s1.trans s2
        have t := t.same s02
        have ta2 := ta.same s02
        have en : rows.getD i [] = ns := by rw [List.getD_eq_getElem?_getD, hn]; rfl
        rw [en] at k1
        refine ⟨rfl, _, rfl, a2, rfl, ⟨_, t.1⟩, fun D2 hD2 => ?_⟩
        refine lcT (K := K) (xs := ns.map V.int) (fun j => decide (ns.getD j 0 ∈ lot)) (fun j => .int ((lot.idxOf (ns.getD j 0) : Nat) : Int)) hD2 t.1 (by rw [List.length_map]; exact t.2) (fun _ _ _ => rfl) (fun j v H3 hj s3 Q3 Q4 k3 k4 => ?_) (fun zs H3 s3 hz3 r3 => ?_)
        · have ev : v = .int (ns.getD j 0) := by
            have hl : j < ns.length := by
              have := (List.getElem?_eq_some_iff.mp hj).1
              simpa using this
            rw [mapD hl] at hj
            exact (Option.some.inj hj).symm
          subst ev
          have ta3 := ta2.same s3
          refine ⟨rfl, _, rfl, _, rfl, a, _, rfl, .inr ta3.1, rfl, flat_ints lot, _, rfl, ?_⟩
          show if inV (.int _) (lot.map V.int) = true then _ else _
          rw [inV_int]
          by_cases c : ns.getD j 0 ∈ lot
          · rw [decide_eq_true c]
            refine iteT ⟨_, rfl, a, _, rfl, ta3.1, (dn (by rw [← ed] at *; exact e) hpos).same (s02.trans s3), _, rfl, _, rfl, ta3.1, c, ?_⟩
            exact k3 (decide_eq_true c) _ _ (Same.refl _) (.int _)
          · rw [decide_eq_false c]
            exact iteF (k4 (decide_eq_false c) _ (Same.refl _))
        · have ez : (((List.range (ns.map V.int).length).filter fun j => decide (ns.getD j 0 ∈ lot)).map fun j => PyData.int ((lot.idxOf (ns.getD j 0) : Nat) : Int)) = (keptRow lot ns).map PyData.int := by
            rw [List.length_map, keptRow, List.map_map, ← filter_map_range (fun x => decide (x ∈ lot)) _ 0 ns]
            rfl
          rw [ez] at r3
          have := r3.ofInts
          subst this
          refine tupL_use (SqL.of hz3) fun p H4 s4 hp => ?_
          exact k1 rfl _ _ (s3.trans s4) (TupI.rp ⟨hp, Nat.le_trans (by unfold keptRow; rw [List.length_map]; exact List.length_filter_le _ _) t.2⟩)
      · rw [filter_true] at r2
        have ez : (List.range xs.length).map (fun j => dTup (keptRow lot (rows.getD j []))) = (rows.map (keptRow lot)).map dTup := by
          rw [hr2.length, List.length_map, List.map_map]
          exact map_range (fun r => dTup (keptRow lot r)) [] rows
        rw [ez] at r2
        have s02 := s1.trans s2
        have lz : ys.length ≤ 1000 := by rw [r2.length, List.length_map, List.length_map, ← List.length_map (f := dTup), ← hr2.length]; exact hz
        refine ⟨_, rfl, _, _, rfl,   .inr (ta.same s02).1, _, rfl, _, rfl, ⟨_, SqL.of hy⟩, fun D2 hD2 => ?_⟩
        refine lcL (K := K) (xs := ys) (fun j => decide (2 ≤ (keptRow lot (rows.getD j [])).length)) (fun j => dTup (keptRow lot (rows.getD j []))) hD2 (SqL.of hy) lz (fun _ _ _ => noL_dTup _) (fun j v H3 hj s3 Q3 Q4 k3 k4 => ?_) (fun zs H3 s3 hz3 r3 => ?_)
        · obtain ⟨ns, a2, hn, rfl, t⟩ := r2.row hj
          have t := t.same s3
          have en : keptRow lot (rows.getD j []) = ns := by
            rw [List.getElem?_map] at hn
            rw [List.getD_eq_getElem?_getD]
            cases hq : rows[j]? with
            | none => rw [hq] at hn; cases hn
            | some r => rw [hq] at hn; exact Option.some.inj hn
          rw [en] at k3 k4
          refine ⟨rfl, _, rfl, _, _, rfl, .inr t.1, _, _, rfl, rfl, _, rfl, ?_⟩
          rw [List.length_map]
          by_cases c : 2 ≤ ns.length
          · rw [decide_eq_true (show (2 : Int) ≤ (ns.length : Nat) by omega)]
            exact iteT ⟨_, rfl, k3 (decide_eq_true c) _ _ (Same.refl _) t.rp⟩
          · rw [decide_eq_false (show ¬ (2 : Int) ≤ (ns.length : Nat) by omega)]
            exact iteF (k4 (decide_eq_false c) _ (Same.refl _))
        · have ez2 : (((List.range ys.length).filter fun j => decide (2 ≤ (keptRow lot (rows.getD j [])).length)).map fun j => dTup (keptRow lot (rows.getD j []))) = (keptRows lot rows).map dTup := by
            have el : ys.length = rows.length := by rw [r2.length, List.length_map, List.length_map]
            rw [el, filter_map_range (fun r => decide (2 ≤ (keptRow lot r).length)) (fun r => dTup (keptRow lot r)) [] rows]
            unfold keptRows
            rw [List.filter_map, List.map_map]
            rfl
          rw [ez2] at r3
          have lz3 : zs.length ≤ 1000 := by
            rw [r3.length, List.length_map]
            unfold keptRows
            refine Nat.le_trans (List.length_filter_le _ _) ?_
            rw [List.length_map, ← List.length_map (f := dTup), ← hr2.length]
            exact hz
          dsimp only [tNil]
          refine tupL_use (SqL.of hz3) fun p H4 s4 hp => ⟨(by show 2 ≤ sizeLine; decide), fun q hq => ?_⟩
          refine k _ _ (((s1.trans s2).trans s3).trans (s4.trans (same_upd hq))) ?_
          rw [List.length_map]
          exact rp_bookNew hp lz3 (r3.same s4) hq
end
end LK
namespace LK
open PySem PySem.Spec PyProof.Rows L2
theorem areUnlike_below {n : Int} {d : PyData} (e : areUnlike n d = true) : areBelow n d = true := by
  unfold areUnlike at e
  rw [Bool.and_eq_true] at e
  exact e.1
theorem rows_app {rows : List (List Int)} {r : List Int} : (rows ++ [r]).map dTup = rows.map dTup ++ [dTup r] := by simp
theorem RpAll.take {K : PySem.W.Frag} {H : Hp} : ∀ {ds : List PyData} {vs : List V} (n : Nat), RpAll K H vs ds → RpAll K H (vs.take n) (ds.take n)
  | _, _, 0, _ => .nil
  | [], _, n + 1, h => by cases h; exact .nil
  | d :: ds, _, n + 1, h => by
    cases h with
    | cons a b => exact .cons a (RpAll.take n b)
theorem RpAll.drop {K : PySem.W.Frag} {H : Hp} : ∀ {ds : List PyData} {vs : List V} (n : Nat), RpAll K H vs ds → RpAll K H (vs.drop n) (ds.drop n)
  | _, _, 0, h => h
  | [], _, n + 1, h => by cases h; exact .nil
  | d :: ds, _, n + 1, h => by
    cases h with
    | cons a b => exact RpAll.drop n b
theorem cut_take {xs : List V} {z : Int} (h0 : 0 ≤ z) (h1 : z ≤ xs.length) : cutV xs none (some z) = xs.take z.toNat := by
  unfold cutV
  have e1 : HT.sIx xs.length 0 none = 0 := rfl
  have e2 : HT.sIx xs.length xs.length (some z) = z.toNat := by
    unfold HT.sIx
    simp
    split <;> omega
  rw [e1, e2]
  simp
theorem cut_drop {xs : List V} {z : Int} (h0 : 0 ≤ z) (h1 : z ≤ xs.length) : cutV xs (some z) none = xs.drop z.toNat := by
  unfold cutV
  have e1 : HT.sIx xs.length 0 (some z) = z.toNat := by
    unfold HT.sIx
    simp
    split <;> omega
  have e2 : HT.sIx xs.length xs.length none = xs.length := rfl
  rw [e1, e2]
  rw [List.take_of_length_le (by rw [List.length_drop]; omega)]
section
variable {P : Program} {w : World} {K : PySem.W.Frag} {mg : Str → Option Value} {base : Heap} {ad : Nat → Addr} {fd : Nat → FuncData}
theorem ok_is_book (T : Txt K mg ad fd) : FnOk P w K mg base CX0 7 (ad 11) (fd 11) ["thing"] (spB K isBook) := by
  refine T.F_is_book.ok sc_is_book (fun vs H Q E h => ?_) (fun cdv A outer s H vs Q E hr h => ?_)
  · obtain ⟨v, d, rfl, _⟩ := h
    rfl
  · obtain ⟨v, d, rfl, h, k⟩ := h
    refine ⟨_, (pss_cons (ps_if (PW.pt (pw_or (pt_not (pt_val (pe_callB (isiR K) (by rfl) T.g_isinstance (by decide +kernel) (pa_cons (pv 0) (pa_cons (pe_bltn (v := .ty "tuple") (by rfl) T.g_tuple (by decide +kernel) rfl) pa_nil))))) (pw_or1 (pt_cmpR op_ne (pe_callB (lenS K) (by rfl) T.g_len (by decide +kernel) (pa_cons (pv 0) pa_nil)) pe_int (nomark _))))) (pss_one (ps_ret pe_bl))
  pss_nil)
  (pss_cons (ps_asg (pv 0) (pg_tup rfl (pgs_cons (pg_name (i := 1) (x := "size") sc_is_book.nd rfl (Or.inr rfl)) (pgs_cons (pg_name (i := 2) (x := "lists") sc_is_book.nd rfl (Or.inl rfl)) pgs_nil))))
  (pss_cons (ps_if (PW.pt (pw_or (pt_not (pt_val (pe_call (ok_is_integer T) (hr.mono (by decide)) rfl T.m_is_integer T.F_is_integer.kp (b_is_integer T) .nil pass0 (pa_cons (pv 1) pa_nil)))) (pw_or (pt_cmpR op_lt (pv 1) pe_int (nomark _)) (pw_or1 (pt_not (pt_val (pe_callB (isiR K) (by rfl) T.g_isinstance (by decide +kernel) (pa_cons (pv 2) (pa_cons (pe_bltn (v := .ty "tuple") (by rfl) T.g_tuple (by decide +kernel) rfl) pa_nil))))))))) (pss_one (ps_ret pe_bl))
  pss_nil)
  (pss_one (ps_ret (pe_callB (allR K) (by rfl) T.g_all (by decide +kernel) (pa_cons (pe_lc (own := [("things", 3)]) (g := gName 3) rfl sc_is_book.nd (piT K (pv 2)) (blkOk_by (N := ["thing", "size", "lists", "things"]) (sc := defScope s_is_book) (by decide +kernel)) (fun _ _ _ _ _ => (pg_name (i := 3) (x := "things") sc_is_book.nd rfl (Or.inl rfl))) (fun _ _ _ _ _ => pts_nil) (fun _ _ _ _ _ => (pe_call (ok_is_listed T) (hr.mono (by decide)) rfl T.m_is_listed T.F_is_listed.kp (b_is_listed T) .nil pass0 (pa_cons (pv 1) (pa_cons (pv 3) pa_nil))))) pa_nil))))))), ?_⟩
    have k' : ∀ b H', Same H H' → b = isBook d → Q (.bl b) H' := fun b H' s e => by rw [e]; exact k _ s
    refine ⟨v, rfl, v, .ty "tuple", _, _, _, rfl, .ty _, h.ty, isi_tuple h, _, rfl, ?_⟩
    cases h with
    | @tup a xs ds st l r =>
      have ll := r.length
      refine iteF ⟨_, rfl, _, _, rfl, .inr st, rfl, _, rfl, ?_⟩
      by_cases c : xs.length = 2
      rotate_left
      · have c1 : (!decide (V.int (xs.length : Nat) = V.int 2)) = true := by
          rw [decide_eq_false (fun z => c (by injection z with z; omega))]
          rfl
        rw [c1]
        exact iteT (k' _ _ (Same.refl _) (isBook_len (by omega)))
      have c1 : (!decide (V.int (xs.length : Nat) = V.int 2)) = false := by
        rw [decide_eq_true (by rw [c]; rfl)]
        rfl
      rw [c1]
      obtain ⟨x, y, d1, d2, ex, ed, r1, r2⟩ := r.len2 c
      subst ex ed
      refine iteF ⟨_, rfl, a, _, rfl, st, rfl, _, _, rfl, _, _, rfl, rfl, ?_⟩
      refine ⟨_, rfl, x, d1, rfl, r1, _, rfl, ?_⟩
      cases r1 with
      | int n =>
        refine iteF ⟨_, rfl, _, _, rfl, rfl, _, rfl, ?_⟩
        by_cases c2 : n < 1
        · rw [decide_eq_true c2]
          exact iteT (iteT (k' _ _ (Same.refl _) (isBook_low c2)))
        · rw [decide_eq_false c2]
          refine iteF ⟨_, rfl, y, .ty "tuple", _, _, _, rfl, .ty _, r2.ty, isi_tuple r2, _, rfl, ?_⟩
          cases r2 with
          | @tup L ys ls s2 l2 r2 =>
            refine iteF ⟨_, rfl, L, rfl, ⟨_, s2⟩, fun D hD => ?_⟩
            refine lcT (K := K) (xs := ys) (fun _ => true) (fun j => .bool (isListed n (ls.getD j .none))) hD s2 l2 (fun _ _ _ => rfl) (fun i x H1 hi s1 Q1 Q2 k1 k2 => ?_) (fun zs H1 s1 hy r3 => ?_)
            · obtain ⟨d, hd, rd⟩ := r2.get hi
              have ed : ls.getD i .none = d := by rw [List.getD_eq_getElem?_getD, hd]; rfl
              rw [ed] at k1
              exact ⟨rfl, _, rfl, _, rfl, n, x, d, rfl, rd.same s1, fun H2 s2 => k1 rfl _ _ s2 (.bl _)⟩
            · rw [filter_true] at r3
              have e := RpAll.ofBools (bs := (List.range ys.length).map fun j => isListed n (ls.getD j .none)) (by rw [List.map_map]; exact r3)
              subst e
              refine ⟨_, _, rfl, SqL.of hy, k' _ _ s1 ?_⟩
              rw [r2.length, all_range (isListed n) .none ls]
              exact isBook_in c2
          | _ => exact iteT (k' _ _ (Same.refl _) (isBook_notTup (fun i z => by cases z)))
      | _ => exact iteT (iteT (k' _ _ (Same.refl _) (isBook_notInt (fun i z => by cases z))))
    | _ => exact iteT (k' _ _ (Same.refl _) rfl)
end
end LK
namespace LK
open PySem PySem.Spec PyProof.Rows L2
/-! ### bits -/
theorem and_odd (a : Nat) : (2 * a + 1) &&& (2 * a) = 2 * a := by
  apply Nat.eq_of_testBit_eq
  intro i
  cases i with
  | zero => simp [Nat.testBit_zero]
  | succ i =>
    rw [Nat.testBit_and, Nat.testBit_succ, Nat.testBit_succ]
    have e1 : (2 * a + 1) / 2 = a := by omega
    have e2 : (2 * a) / 2 = a := by omega
    rw [e1, e2, Bool.and_self]
theorem and_even (a b : Nat) : (2 * a) &&& (2 * b + 1) = 2 * (a &&& b) := by
  apply Nat.eq_of_testBit_eq
  intro i
  cases i with
  | zero => simp [Nat.testBit_zero]
  | succ i =>
    rw [Nat.testBit_and, Nat.testBit_succ, Nat.testBit_succ, Nat.testBit_succ]
    have e1 : (2 * b + 1) / 2 = b := by omega
    have e2 : (2 * a) / 2 = a := by omega
    have e3 : (2 * (a &&& b)) / 2 = a &&& b := by omega
    rw [e1, e2, e3, Nat.testBit_and]
/-- the least bit of a number above 0 -/
theorem low_bit : ∀ (m : Nat), 0 < m → ∃ t, m - (m &&& (m - 1)) = 2 ^ t ∧ m &&& (m - 1) ≤ m ∧ m.testBit t = true ∧ ∀ i, i < t → m.testBit i = false := by
  intro m
  induction m using Nat.strongRecOn with
  | ind m ih =>
    intro hm
    rcases Nat.mod_two_eq_zero_or_one m with h | h
    · obtain ⟨k, rfl⟩ : ∃ k, m = 2 * k := ⟨m / 2, by omega⟩
      obtain ⟨t, h1, h0, h2, h3⟩ := ih k (by omega) (by omega)
      have e : 2 * k - 1 = 2 * (k - 1) + 1 := by omega
      refine ⟨t + 1, ?_, ?_, ?_, ?_⟩
      · rw [e, and_even, Nat.pow_succ]
        omega
      · rw [e, and_even]
        omega
      · rw [Nat.testBit_succ]
        have e2 : (2 * k) / 2 = k := by omega
        rw [e2]
        exact h2
      · intro i hi
        cases i with
        | zero => simp [Nat.testBit_zero]
        | succ i =>
          rw [Nat.testBit_succ]
          have e2 : (2 * k) / 2 = k := by omega
          rw [e2]
          exact h3 i (by omega)
    · obtain ⟨k, rfl⟩ : ∃ k, m = 2 * k + 1 := ⟨m / 2, by omega⟩
      have e : 2 * k + 1 - 1 = 2 * k := by omega
      refine ⟨0, ?_, ?_, ?_, ?_⟩
      · rw [e, and_odd]
        simp
      · rw [e, and_odd]
        omega
      · simp [Nat.testBit_zero]
      · intro i hi
        omega
theorem and_neg {m : Nat} (hm : 0 < m) : ∃ t, Builtin.bitAnd (m : Int) (-(m : Int)) = ((2 ^ t : Nat) : Int) ∧ m.testBit t = true ∧ ∀ i, i < t → m.testBit i = false := by
  obtain ⟨t, h1, h0, h2, h3⟩ := low_bit m hm
  refine ⟨t, ?_, h2, h3⟩
  unfold Builtin.bitAnd
  have e1 : decide (0 ≤ (m : Int)) = true := decide_eq_true (by omega)
  have e2 : decide (0 ≤ -(m : Int)) = false := decide_eq_false (by omega)
  rw [e1, e2]
  have e3 : (Builtin.bitNot (-(m : Int))).toNat = m - 1 := by
    unfold Builtin.bitNot
    omega
  have e4 : ((m : Int)).toNat = m := by omega
  simp only [e3, e4]
  omega
theorem bits_pow (t : Nat) : Builtin.Int.intBits ((2 ^ t : Nat) : Int) = t + 1 := by
  unfold Builtin.Int.intBits
  have h : 0 < 2 ^ t := Nat.two_pow_pos t
  have : (((2 ^ t : Nat) : Int) == 0) = false := by
    rw [beq_eq_false_iff_ne]
    intro z
    have z2 : (2 ^ t : Nat) = 0 := by exact_mod_cast z
    omega
  rw [this]
  simp [Nat.log2_two_pow]
theorem xor_nat (a b : Nat) : Builtin.bitXor (a : Int) (b : Int) = ((a ^^^ b : Nat) : Int) := Bits.bitXor_pp (by omega) (by omega)
theorem or_nat (a b : Nat) : Builtin.bitOr (a : Int) (b : Int) = ((a ||| b : Nat) : Int) := Bits.bitOr_pp (by omega) (by omega)
theorem and_nat (a b : Nat) : Builtin.bitAnd (a : Int) (b : Int) = ((a &&& b : Nat) : Int) := by
  unfold Builtin.bitAnd
  have e1 : decide (0 ≤ (a : Int)) = true := decide_eq_true (by omega)
  have e2 : decide (0 ≤ (b : Int)) = true := decide_eq_true (by omega)
  rw [e1, e2]
  simp
/-- the bits below B, ascending -/
def bitL (B m : Nat) : List Nat := (List.range B).filter fun i => m.testBit i
theorem mem_bitL {B m i : Nat} : i ∈ bitL B m ↔ i < B ∧ m.testBit i = true := by
  unfold bitL
  rw [List.mem_filter, List.mem_range]
theorem bitL_pw (B m : Nat) : (bitL B m).Pairwise (· < ·) := List.Pairwise.filter _ List.pairwise_lt_range
theorem eq_of_lt {l m : List Nat} (hl : l.Pairwise (· < ·)) (hm : m.Pairwise (· < ·)) (h : ∀ x, x ∈ l ↔ x ∈ m) : l = m := by
  have n1 : l.Nodup := hl.imp fun h => Nat.ne_of_lt h
  have n2 : m.Nodup := hm.imp fun h => Nat.ne_of_lt h
  have p : l.Perm m := (List.perm_ext_iff_of_nodup n1 n2).mpr h
  exact List.Perm.eq_of_pairwise (fun x y _ _ h1 h2 => by omega) hl hm p
theorem bitL_zero (B : Nat) : bitL B 0 = [] := by
  unfold bitL
  simp
theorem testBit_lt {m B i : Nat} (h : m < 2 ^ B) (hi : m.testBit i = true) : i < B := by
  apply Classical.byContradiction
  intro z
  have : m.testBit i = false := Nat.testBit_lt_two_pow (Nat.lt_of_lt_of_le h (Nat.pow_le_pow_right (by decide) (by omega)))
  rw [this] at hi
  cases hi
theorem xor_pow {m t : Nat} (i : Nat) : (m ^^^ 2 ^ t).testBit i = (m.testBit i ^^ decide (t = i)) := by
  rw [Nat.testBit_xor, Nat.testBit_two_pow]
/-- the least bit taken away -/
theorem bitL_step {B m t : Nat} (hB : m < 2 ^ B) (h2 : m.testBit t = true) (h3 : ∀ i, i < t → m.testBit i = false) : bitL B m = t :: bitL B (m ^^^ 2 ^ t) := by
  refine eq_of_lt (bitL_pw B m) (List.pairwise_cons.mpr ⟨fun j hj => ?_, bitL_pw B _⟩) fun x => ?_
  · obtain ⟨h4, h5⟩ := mem_bitL.mp hj
    rw [xor_pow] at h5
    apply Classical.byContradiction
    intro z
    by_cases e : t = j
    · subst e
      rw [h2] at h5
      simp at h5
    · rw [h3 j (by omega)] at h5
      simp [e] at h5
  · rw [List.mem_cons, mem_bitL, mem_bitL, xor_pow]
    constructor
    · rintro ⟨h4, h5⟩
      by_cases e : x = t
      · exact .inl e
      · refine .inr ⟨h4, ?_⟩
        rw [h5]
        have : ¬ t = x := fun z => e z.symm
        simp [this]
    · rintro (rfl | ⟨h4, h5⟩)
      · exact ⟨testBit_lt hB h2, h2⟩
      · refine ⟨h4, ?_⟩
        by_cases e : t = x
        · subst e
          exact h2
        · simpa [e] using h5
theorem xor_lt {B m t : Nat} (hB : m < 2 ^ B) (h2 : m.testBit t = true) : m ^^^ 2 ^ t < 2 ^ B := by
  refine Nat.xor_lt_two_pow hB ?_
  exact Nat.pow_lt_pow_right (by decide) (testBit_lt hB h2)
/-- the mask of a list of things -/
def maskL (ns : List Int) : Nat := ns.foldl (fun m x => m ||| 2 ^ x.toNat) 0
theorem foldl_bit (i : Nat) : ∀ (ns : List Int) (m : Nat), (ns.foldl (fun m x => m ||| 2 ^ x.toNat) m).testBit i = (m.testBit i || decide (∃ x ∈ ns, x.toNat = i))
  | [], m => by simp
  | x :: ns, m => by
    rw [List.foldl_cons, foldl_bit i ns, Nat.testBit_or, Nat.testBit_two_pow]
    by_cases e : x.toNat = i
    · simp [e]
    · simp [e]
theorem maskL_bit {ns : List Int} (h : ∀ x ∈ ns, 0 ≤ x) (i : Nat) : (maskL ns).testBit i = decide ((i : Int) ∈ ns) := by
  unfold maskL
  rw [foldl_bit, Nat.zero_testBit, Bool.false_or]
  congr 1
  apply propext
  constructor
  · rintro ⟨x, hx, e⟩
    have := h x hx
    have e2 : (i : Int) = x := by omega
    rw [e2]
    exact hx
  · intro hx
    exact ⟨_, hx, by omega⟩
theorem lt_of_bits {m B : Nat} (h : ∀ i, m.testBit i = true → i < B) : m < 2 ^ B := by
  apply Classical.byContradiction
  intro z
  have hm : m ≠ 0 := by
    intro e
    subst e
    exact z (Nat.two_pow_pos B)
  have h1 : m.testBit m.log2 = true := Nat.testBit_log2 hm
  have h2 := h _ h1
  have h3 : m < 2 ^ (m.log2 + 1) := Nat.lt_log2_self
  have h4 : 2 ^ (m.log2 + 1) ≤ 2 ^ B := Nat.pow_le_pow_right (by decide) h2
  omega
end LK
namespace LK
open PySem PySem.Spec PyProof.Rows L2 StX
/-! ### for i, x in enumerate(tuple) -/
theorem for_enumT {K : PySem.W.Frag} {a : Addr} {xs : List V} {g : TG} {tb : TS} {D : Ends} {σ : L2.St} {H : Hp} (Pv : Nat → L2.St → Hp → Prop) (h0 : Pv 0 σ H) (hl : ∀ i σ H, i ≤ xs.length → Pv i σ H → SqT K H a xs)
    (hs : ∀ i x σ H T, xs[i]? = some x → Pv i σ H → H T = none → g (.ref T) σ (upd H T (.tup [.int (i : Nat), x])) fun σ2 H2 => tb { D with nx := Pv (i + 1), ct := Pv (i + 1), bk := D.nx } σ2 H2) (hd : ∀ σ H, Pv xs.length σ H → D.nx σ H) :
    ∃ W : Nat → Nat → L2.St → Hp → Prop, (∃ m, W 0 m σ H) ∧ ∀ i m σ H, W i m σ H →
      ((IteT K a).stop i H ∧ D.nx σ H) ∨ ((IteT K a).go i H ∧ ∃ N : L2.St → Hp → Prop, (∀ σ' H', N σ' H' → ∃ m', m' < m ∧ W (i + 1) m' σ' H') ∧ ∀ x H', (IteT K a).yld i H x H' → g x σ H' fun σ2 H2 => tb { D with nx := N, ct := N, bk := D.nx } σ2 H2) := by
  refine ⟨fun i m σ H => m = xs.length - i ∧ i ≤ xs.length ∧ Pv i σ H, ⟨xs.length, by simp, Nat.zero_le _, h0⟩, ?_⟩
  rintro i m σ H ⟨rfl, hi, p⟩
  have q := hl i σ H hi p
  by_cases hlt : i < xs.length
  · refine .inr ⟨⟨xs, xs[i], q, by simp [hlt]⟩, Pv (i + 1), fun σ' H' p' => ⟨xs.length - (i + 1), by omega, rfl, hlt, p'⟩, fun x H' y => ?_⟩
    obtain ⟨T, x', rfl, hT, rfl, e⟩ := y
    exact hs i x' σ H T (e xs q) p hT
  · have e : i = xs.length := by omega
    subst e
    exact .inl ⟨⟨xs, q, Nat.le_refl _⟩, hd _ _ p⟩
/-! ### calls of a def with a star parameter -/
section
variable {X : Cx} {CX : CXT} {k : Nat} {f : Addr} {sp : Sp} {E : XK} {x : Str} {p pos : Pos} {e : Expr} {es : List Expr} {t : TA}
theorem pe_callRR (F : FnR X.prog X.w X.K X.mg X.base CX k f sp) (hr : Room k X.A) (hg : Gl X x) (hm : X.mg x = some (.ref f)) (hk : PySem.W.keepIn X.K (.ref f) = true) (hx : Passes CX X E) (ha : PA X (e :: es) t) (hdb : (x == ("__debug__" : Str)) = false := by decide)
    (he : starEach (e :: es) X.env = (false, eval e X.env) :: starEach es X.env := by rfl) (hpl : (backTo pos (starEach es X.env)).any (·.1) = false := by rfl) :
    PE X (.Call (.Name x p) (e :: es) [] pos) (fun σ H Q => t σ H fun vs H1 => sp vs H1 Q E) := by
  refine ⟨fun pins s σ H Q I h => ?_⟩
  refine wpAny_Call_Name_kw (ld_glob I hg hm ?_ hdb)
  refine PySem.W.callWith_K (h₀ := X.base) I.ok.mod.kin hk (thn (ha.run pos pins s σ H _ I h) fun us s1 ⟨vs, H1, I1, r, q⟩ => ⟨I1.kIn, ?_⟩) he hpl
  exact wpAny_call (run_fnR F hr hx I1 r q)
/-- a promise of f(k = e), f with one parameter k and a star parameter -/
def FnK1 (P : Program) (w : World) (K : PySem.W.Frag) (mg : Str → Option Value) (base : Heap) (CX : CXT) (k : Nat) (f : Addr) (n : Str) (sp : Sp) : Prop :=
  ∀ (A : Around) (outer : List Env) (s : Shared) (H : Hp) (u : Value) (v : V) (Q : VK) (E : XK), Room k A → Env0 P w K mg base A outer s H → RelV v u → sp [v] H Q E →
    codeAny (model P w) A (.call (.ref f) ⟨[], [(n, u)]⟩) (CR CX outer P w H s Q E) s
theorem pe_callK1 {n : Str} {kw : Keyword} {tk : TA} (F : FnK1 X.prog X.w X.K X.mg X.base CX k f n sp) (hr : Room k X.A) (hg : Gl X x) (hm : X.mg x = some (.ref f)) (hk : PySem.W.keepIn X.K (.ref f) = true) (hx : Passes CX X E)
    (hkw : PK X [kw] tk) (hall : (backToKw pos (keywordEach [kw] X.env)).all (·.1.isSome) = true := by rfl) (hks : (backToKw pos (keywordEach [kw] X.env)).filterMap (·.1) = [n] := by rfl)
    (hdb : (x == ("__debug__" : Str)) = false := by decide)
    (hpl : ((backTo pos (starEach [] X.env)).any (·.1) || (backToKw pos (keywordEach [kw] X.env)).any (·.1.isNone)) = false := by rfl) :
    PE X (.Call (.Name x p) [] [kw] pos) (fun σ H Q => tk σ H fun zs H1 => ∃ v, zs = [v] ∧ sp [v] H1 Q E) := by
  refine ⟨fun pins s σ H Q I h => ?_⟩
  refine wpAny_Call_Name_kw (ld_glob I hg hm ?_ hdb)
  refine PySem.W.callWith_KW0 (h₀ := X.base) I.ok.mod.kin hk hall ?_ hpl
  refine thn (hkw.run pos pins s σ H _ I h) fun ws s2 ⟨zs, H2, I2, rz, v, ez, q2⟩ => ⟨I2.kIn, ?_⟩
  subst ez
  rw [hks]
  cases rz with
  | cons r rr =>
    cases rr
    refine wpAny_call (codeAny_mono (F X.A X.stack s2 H2 _ v Q E hr I2.env0 r q2) fun rr s' hq => ?_)
    cases rr with
    | error e => exact hx pins σ H2 s2 e s' I2 hq
    | ok fl =>
      cases fl with
      | ret u => exact I2.after hq
      | next => exact False.elim hq
      | brk => exact False.elim hq
      | cont => exact False.elim hq
end
section
variable {CX : CXT} {P : Program} {w : World} {K : PySem.W.Frag} {mg : Str → Option Value} {base : Heap} {k : Nat} {f : Addr} {name qual : Str} {params : Arguments} {body : List Stmt} {scope : Scope} {dV kV doc pm cdv ct oc : Value} {an od : Option Addr}
  {osl : Array (Option Value)} {N : List Str} {sp : Sp}
theorem fn_starK {p1 pv : Str} (lk : K.lookup f = some ⟨oc, od, .func (PySem.W.fnOf name qual params body scope dV kV doc pm an cdv ct), osl⟩) (hcd : PySem.W.codeIn K cdv qual = true) (S : FnScope N ([p1] ++ [pv]) scope) (hCX : CXUp CX)
    (hb : ∀ u : Value, bindArgs (PySem.W.fnOf name qual params body scope dV kV doc pm an cdv ct) ⟨[], [(p1, u)]⟩ = (newTuple [] >>= fun t => pure [(p1, u), (pv, t)]))
    (hbody : ∀ (A : Around) (outer : List Env) (s : Shared) (H : Hp) (vs : List V) (Q : VK) (E : XK), Room k (A.deeper (envOfC qual scope s.heap.objs.size f cdv)) → sp vs H Q E →
      ∃ t, PSs (cxOf CX P w K mg base N qual scope f cdv A outer s H E) body t ∧ t { nx := fun _ H' => Q .non H', rt := Q } (start N vs) H) :
    FnK1 P w K mg base CX (k + 1) f p1 (fun vs H Q E => ∃ v, vs = [v] ∧ ∀ p, H p = Option.none → sp [v, V.ref p] (upd H p (.tup [])) Q E) := by
  intro A outer s H u v Q E hr e0 r hsp
  obtain ⟨v', ev, hq⟩ := hsp
  cases ev
  have hn : H s.heap.objs.size = Option.none := e0.hok.fresh (Nat.le_refl _)
  refine run_bnd lk hcd S hr e0 (G := fun xs H2 => ∃ p, H p = Option.none ∧ xs = [v] ++ [V.ref p] ∧ H2 = upd H p (.tup [])) (fun A' Ex Q' h => ?_) fun s2 H2 xs ⟨p, hp, ex, eH⟩ hr' => ?_
  · rw [hb u]
    refine wpAny_bind (wpAny_newTuple (wpAny_pure ?_) (by decide))
    have new : ObjOk P w (upd H s.heap.objs.size (.tup [])) (s.heap.push ({ cls := .type "tuple", data := .seq ([] : List Value).toArray } : Obj)) s.heap.objs.size (.tup []) := ⟨by decide, [], .nil, ⟨_, Heap.get?_push_size _ rfl, rfl, _, rfl⟩⟩
    have un := un_laid (fs := frs outer) (s := s) (o := ({ cls := .type "tuple", data := .seq ([] : List Value).toArray } : Obj)) (u := .tup []) hn
    have z := h _ _ ([v] ++ [V.ref s.heap.objs.size]) ([u] ++ [Value.ref s.heap.objs.size]) (env0_laid e0 new) un rfl (fun e s' => hCX outer s H _ _ E e s' un (fun b o q => Heap.get?_push_of_some _ q) rfl) (.cons r (.cons rfl .nil))
      rfl ⟨_, hn, rfl, rfl⟩
    exact z
  · subst ex eH
    exact hbody A outer s2 _ _ Q E hr' (hq p hp)
end
/-! ### the mirror of book_of -/
def goodList (n : Int) (d : PyData) : Bool := areUnlike n d && decide (2 ≤ (dInts d).length)
def bookOfX (d : PyData) (ls : List PyData) : Except (Str × Int) PyData :=
  if isInteger d && decide (1 ≤ toInt d) then
    (match ls.findIdx? fun l => !goodList (toInt d) l with
      | some k => .error ("lists", (k : Nat))
      | none => .ok (bookD (toInt d) (ls.map fun l => srt (dInts l))))
  else .error ("size", -1)
def spBookB (K : PySem.W.Frag) (C : Addr) : Sp := fun vs H Q E => ∃ u d p xs ls, vs = [u, .ref p] ∧ Rp K H u d ∧ SqT K H p xs ∧ xs.length ≤ 1000 ∧ RpAll K H xs ls ∧ Out K C Q E H (bookOfX d ls)
/-- as callers say it -/
def spBookR (K : PySem.W.Frag) (C : Addr) : Sp := fun vs H Q E => ∃ u us d ls, vs = u :: us ∧ Rp K H u d ∧ us.length ≤ 1000 ∧ RpAll K H us ls ∧ Out K C Q E H (bookOfX d ls)
end LK
namespace LK
open PySem PySem.Spec PyProof.Rows L2
/-! ### enumerate of a list or a tuple -/
def iEnumA (K : PySem.W.Frag) (ta : TA) : TI := fun σ H R => ta σ H fun vs H1 => ∃ a xs, vs = [.ref a] ∧ ((SqL K H1 a xs ∧ R (Ite K a) H1) ∨ (SqT K H1 a xs ∧ R (IteT K a) H1))
theorem pi_enumA {X : Cx} {K : PySem.W.Frag} {e : Expr} {ta : TA} {p pos tpos : Pos} {elts : List Expr} {kk : Nat} (hg : Gl X "enumerate") (hm : X.mg "enumerate" = none) (ha : PA X [e] ta) (hK : X.K = K := by rfl) (hs : starEach [e] X.env = [(false, eval e X.env)] := by rfl) :
    PI X (.Tuple elts kk tpos) (.Call (.Name "enumerate" p) [e] [] pos) (iEnumA K ta) := by
  subst hK
  refine ⟨fun pins s σ H R I h => ?_⟩
  refine Call_ (ld_blt I hg hm boot_enumerate (PyProof.Rows.callWith_type1 (thn (ha.run pos pins s σ H _ I h) fun us s1 ⟨vs, H1, I1, r1, q1⟩ => ?_) hs rfl))
  obtain ⟨a, xs, ex, q⟩ := q1
  subst ex
  cases r1 with
  | cons r rr =>
    cases rr
    cases r
    rcases q with ⟨hq, q⟩ | ⟨hq, q⟩
    · obtain ⟨its, rv, p', hz⟩ := I1.list hq
      refine call_enumerate_list p'.isList fun h' he hit hsz hk => wpAny_pyIter_enum he ?_
      have I2 : Inv X pins σ H1 { s1 with heap := h' } := I1.kept (t' := s1.toks) hk
      refine ⟨s1.heap.objs.size + 1, [s1.heap.objs.size + 1, s1.heap.objs.size], _, _, H1, rfl, I2, turn_enum a (s1.heap.objs.size + 1) s1.heap.objs.size, ⟨⟨.none, he⟩, hit, Nat.succ_ne_self _⟩, fun b hb => ?_, q⟩
      have e' : b = s1.heap.objs.size + 1 ∨ b = s1.heap.objs.size := by simpa using hb
      have hle : s1.heap.objs.size ≤ b := by
        rcases e' with z | z
        · rw [z]; exact Nat.le_add_right _ _
        · rw [z]; exact Nat.le_refl _
      exact I1.fpOk hle (I1.hok.fresh hle)
    · obtain ⟨its, rv, p', hz⟩ := I1.tuple hq
      have hal : a < s1.heap.objs.size := by obtain ⟨_, z, _⟩ := p'; exact Heap.lt_size z
      refine call_enumerate_tup p' fun h' he hit hsz hk => wpAny_pyIter_enum he ?_
      have I2 : Inv X pins σ H1 { s1 with heap := h' } := I1.kept (t' := s1.toks) hk
      refine ⟨s1.heap.objs.size + 1, [s1.heap.objs.size + 1, s1.heap.objs.size], _, _, H1, rfl, I2, turn_enumT a (s1.heap.objs.size + 1) s1.heap.objs.size, ⟨⟨.none, he⟩, hit, Nat.succ_ne_self _, Nat.ne_of_lt hal⟩, fun b hb => ?_, q⟩
      have e' : b = s1.heap.objs.size + 1 ∨ b = s1.heap.objs.size := by simpa using hb
      have hle : s1.heap.objs.size ≤ b := by
        rcases e' with z | z
        · rw [z]; exact Nat.le_add_right _ _
        · rw [z]; exact Nat.le_refl _
      exact I1.fpOk hle (I1.hok.fresh hle)
/-- {x: i for i, x in enumerate(line)}: the reading of the walk, over a list or a tuple -/
def DictOk (line : List Int) (i : Nat) (kvs : List (Key × V)) : Prop := kvs.length ≤ i ∧ ∀ k : Int, valV kvs (Sum.inl k) = if k ∈ line.take i then some (V.int (line.idxOf k : Nat)) else none
theorem idxOf_at : ∀ {line : List Int} {i : Nat} {x : Int}, line.Nodup → line[i]? = some x → line.idxOf x = i
  | [], i, x, _, h => by simp at h
  | a :: l, 0, x, _, h => by
    have e : a = x := by simpa using h
    subst e
    simp
  | a :: l, i + 1, x, n, h => by
    have hn := List.nodup_cons.mp n
    have hx : l[i]? = some x := by simpa using h
    have ih := idxOf_at hn.2 hx
    have hne : ¬ a = x := fun e => hn.1 (e ▸ List.mem_of_getElem? hx)
    have hb : (a == x) = false := by simpa using hne
    rw [List.idxOf_cons, hb, ih]
    rfl
theorem dict_step {line : List Int} {i : Nat} {x : Int} {kvs : List (Key × V)} (n : line.Nodup) (h : line[i]? = some x) (d : DictOk line i kvs) : DictOk line (i + 1) (putK kvs (Sum.inl x) (.int (i : Nat))) := by
  refine ⟨Nat.le_trans (length_putK _ _ _) (by have := d.1; omega), fun k => ?_⟩
  have et : line.take (i + 1) = line.take i ++ [x] := by
    rw [List.take_succ, h]
    rfl
  rw [valV_put, d.2 k, et]
  by_cases e : k = x
  · subst e
    rw [if_pos rfl, if_pos (by simp), idxOf_at n h]
  · rw [if_neg (fun z => e (by injection z))]
    by_cases hk : k ∈ line.take i
    · rw [if_pos hk, if_pos (by simp [hk])]
    · rw [if_neg hk, if_neg (by simp [hk, e])]
theorem dict_start (line : List Int) : DictOk line 0 [] := ⟨Nat.le_refl _, fun k => by simp [valV_nil]⟩
/-- the walk of the comprehension's reading -/
theorem dc_enum {K : PySem.W.Frag} {a : Addr} {line : List Int} {g : TG} {tt : TT} {tk tv : TE} {vs : List Nat} {σ : L2.St} {H : Hp} {D : Addr} {Qd : Hp → Prop} (hD : H D = none) (hz : line.length ≤ 1000) (nd : line.Nodup) (J : It)
    (hJ : (J = Ite K a ∧ SqL K H a (line.map V.int)) ∨ (J = IteT K a ∧ SqT K H a (line.map V.int)))
    (hs : ∀ (i : Nat) (x : Int) (T : Addr) (H1 : Hp) (Q : VK), (line[i]? = some x) → H1 T = none → Same H H1 → (∀ kvs, H1 D = some (.dK kvs) → True) →
      (∀ Q1 : V → V → Hp → Prop, Q1 (.int x) (.int (i : Nat)) (upd H1 T (.tup [.int (i : Nat), .int x])) → g (.ref T) (wipe σ vs) (upd H1 T (.tup [.int (i : Nat), .int x])) fun σ2 H2 => wipe σ2 vs = wipe σ vs ∧ tt σ2 H2 fun b H3 => b = true ∧ tk σ2 H3 fun y H4 => tv σ2 H4 fun z H5 => Q1 y z H5))
    (mono : ∀ (σ2 : L2.St) (H2 : Hp) (Q Q' : Bool → Hp → Prop), (∀ b H, Q b H → Q' b H) → tt σ2 H2 Q → tt σ2 H2 Q')
    (gmono : ∀ (v : V) (σ1 : L2.St) (H2 : Hp) (Q Q' : L2.St → Hp → Prop), (∀ s H, Q s H → Q' s H) → g v σ1 H2 Q → g v σ1 H2 Q')
    (hd : ∀ kvs H1, Same H H1 → H1 D = some (.dK kvs) → DictOk line line.length kvs → Qd H1) :
    ∃ W : Nat → Nat → Hp → Prop, (∃ m, W 0 m (upd H D (.dK []))) ∧ ∀ i m H, W i m H →
      (J.stop i H ∧ Qd H) ∨ (J.go i H ∧ ∃ Nx : Hp → Prop, (∀ H', Nx H' → ∃ m', m' < m ∧ W (i + 1) m' H') ∧ ∀ x H', J.yld i H x H' → g x (wipe σ vs) H' fun σ2 H2 => wipe σ2 vs = wipe σ vs ∧ tt σ2 H2 fun b H3 =>
        if b = true then tk σ2 H3 fun y H4 => tv σ2 H4 fun z H5 => ∃ kvs k, y = kV k ∧ H5 D = some (.dK kvs) ∧ kvs.length < sizeLine ∧ Nx (upd H5 D (.dK (putK kvs k z))) else Nx H3) := by
  let Pv : Nat → Hp → Prop := fun i H1 => ∃ kvs, Same H H1 ∧ H1 D = some (.dK kvs) ∧ DictOk line i kvs
  refine ⟨fun i m H1 => m = line.length - i ∧ i ≤ line.length ∧ Pv i H1, ⟨line.length, by simp, Nat.zero_le _, [], same_upd hD, upd_same, dict_start line⟩, ?_⟩
  rintro i m H1 ⟨rfl, hi, kvs, s1, hk, dk⟩
  have yld : ∀ x H', J.yld i H1 x H' → i < line.length → ∃ T z, x = .ref T ∧ H1 T = none ∧ H' = upd H1 T (.tup [.int (i : Nat), .int z]) ∧ line[i]? = some z := by
    intro x H' y hlt
    have hm : (line.map V.int)[i]? = some (.int line[i]) := by rw [List.getElem?_map, List.getElem?_eq_getElem hlt]; rfl
    rcases hJ with ⟨rfl, hq⟩ | ⟨rfl, hq⟩
    · obtain ⟨T, x', rfl, hT, rfl, e⟩ := y
      have := e _ (s1.seq hq)
      rw [hm] at this
      cases this
      exact ⟨T, _, rfl, hT, rfl, List.getElem?_eq_getElem hlt⟩
    · obtain ⟨T, x', rfl, hT, rfl, e⟩ := y
      have := e _ (seqT s1 hq)
      rw [hm] at this
      cases this
      exact ⟨T, _, rfl, hT, rfl, List.getElem?_eq_getElem hlt⟩
  by_cases hlt : i < line.length
  · have hgo : J.go i H1 := by
      have hm : (line.map V.int)[i]? = some (.int line[i]) := by rw [List.getElem?_map, List.getElem?_eq_getElem hlt]; rfl
      rcases hJ with ⟨rfl, hq⟩ | ⟨rfl, hq⟩
      · exact ⟨_, _, s1.seq hq, hm⟩
      · exact ⟨_, _, seqT s1 hq, hm⟩
    refine .inr ⟨hgo, Pv (i + 1), fun H' p' => ⟨line.length - (i + 1), by omega, rfl, hlt, p'⟩, fun x H' y => ?_⟩
    obtain ⟨T, z, rfl, hT, rfl, hz2⟩ := yld x H' y hlt
    have sT : Same H1 (upd H1 T (.tup [.int (i : Nat), .int z])) := same_upd hT
    have hk2 := sT _ _ hk
    refine gmono _ _ _ _ _ (fun σ2 H2 hq => ⟨hq.1, mono _ _ _ _ (fun b H3 hb => ?_) hq.2⟩) (hs i z T H1 (fun _ _ => True) hz2 hT s1 (fun _ _ => True.intro) (fun y z2 H5 => ∃ kvs k, y = kV k ∧ H5 D = some (.dK kvs) ∧ kvs.length < sizeLine ∧ Pv (i + 1) (upd H5 D (.dK (putK kvs k z2))))
      ⟨kvs, Sum.inl z, rfl, hk2, small1000 (by have := dk.1; omega), putK kvs (Sum.inl z) (.int (i : Nat)), fun b o e => ?_, upd_same, dict_step nd hz2 dk⟩)
    · rw [hb.1, if_pos rfl]
      exact hb.2
    · rw [upd_ne (ne_of_none e hD)]
      exact sT _ _ (s1 _ _ e)
  · have hie : i = line.length := by omega
    have hst : J.stop i H1 := by
      rcases hJ with ⟨rfl, hq⟩ | ⟨rfl, hq⟩
      · exact ⟨_, s1.seq hq, by rw [List.length_map]; omega⟩
      · exact ⟨_, seqT s1 hq, by rw [List.length_map]; omega⟩
    subst hie
    exact .inl ⟨hst, hd kvs H1 s1 hk dk⟩
theorem pgT {X : Cx} (K : PySem.W.Frag) {pos : Pos} {es : List Expr} {k : Nat} {t : TGs} {n : Nat} (hc : X.calm = true) (h : PGs X es t) (hK : X.K = K := by rfl)
    (hn : (assignEach es X.env).length = n := by rfl) (hst : (assignEach es X.env).findIdx? (·.1) = none := by rfl) : PG X (.Tuple es k pos) (gTup K n t) := hK ▸ pg_tup hc h hn hst
end LK
namespace LK
open PySem PySem.Spec PyProof.Rows L2
/-! ### the things told in lists, each where it comes first; the ties by them -/
def addT (acc : List Int) (x : Int) : List Int := if x ∈ acc then acc else acc ++ [x]
def firstsL (acc l : List Int) : List Int := l.foldl addT acc
def firsts (rows : List (List Int)) : List Int := rows.foldl firstsL []
def SpotOk (th : List Int) (kvs : List (Key × V)) : Prop := kvs.length = th.length ∧ ∀ k : Int, valV kvs (Sum.inl k) = if k ∈ th then some (V.int (th.idxOf k : Nat)) else none
theorem spot_start : SpotOk [] [] := ⟨rfl, fun k => by simp [valV_nil]⟩
theorem spot_old {th : List Int} {kvs : List (Key × V)} {x : Int} (s : SpotOk th kvs) (h : x ∈ th) : SpotOk (addT th x) kvs := by
  unfold addT
  rw [if_pos h]
  exact s
theorem spot_new {th : List Int} {kvs : List (Key × V)} {x : Int} (s : SpotOk th kvs) (h : ¬ x ∈ th) : SpotOk (addT th x) (putK kvs (Sum.inl x) (.int (kvs.length : Nat))) := by
  unfold addT
  rw [if_neg h]
  have hn : valV kvs (Sum.inl x) = none := by rw [s.2 x, if_neg h]
  have hk := valV_not hn
  have hp : putK kvs (Sum.inl x) (.int (kvs.length : Nat)) = kvs ++ [(Sum.inl x, .int (kvs.length : Nat))] := by
    unfold putK
    rw [if_neg]
    intro ha
    obtain ⟨kv, hm, he⟩ := List.any_eq_true.mp ha
    exact hk (List.mem_map.mpr ⟨kv, hm, by simpa using he⟩)
  refine ⟨by rw [hp, List.length_append, List.length_append, s.1]; rfl, fun k => ?_⟩
  rw [valV_put, s.2 k]
  by_cases e : k = x
  · subst e
    rw [if_pos rfl, if_pos (by simp), List.idxOf_append, if_neg h, s.1]
    simp
  · rw [if_neg (fun z => e (by injection z))]
    by_cases hm : k ∈ th
    · rw [if_pos hm, if_pos (by simp [hm]), List.idxOf_append, if_pos hm]
    · rw [if_neg hm, if_neg (by simp [hm, e])]
theorem addT_mem {acc : List Int} {x y : Int} : y ∈ addT acc x ↔ y ∈ acc ∨ y = x := by
  unfold addT
  by_cases h : x ∈ acc
  · rw [if_pos h]
    constructor
    · exact .inl
    · rintro (h2 | rfl)
      · exact h2
      · exact h
  · rw [if_neg h]
    simp
theorem addT_nodup {acc : List Int} {x : Int} (n : acc.Nodup) : (addT acc x).Nodup := by
  unfold addT
  by_cases h : x ∈ acc
  · rw [if_pos h]
    exact n
  · rw [if_neg h]
    refine List.nodup_append.mpr ⟨n, by simp, fun a ha b hb => ?_⟩
    have : b = x := by simpa using hb
    subst this
    intro e
    subst e
    exact h ha
theorem firstsL_mem {y : Int} : ∀ {l acc : List Int}, y ∈ firstsL acc l ↔ y ∈ acc ∨ y ∈ l
  | [], acc => by simp [firstsL]
  | x :: l, acc => by
    show y ∈ firstsL (addT acc x) l ↔ _
    rw [firstsL_mem, addT_mem, List.mem_cons]
    constructor
    · rintro ((h | h) | h)
      · exact .inl h
      · exact .inr (.inl h)
      · exact .inr (.inr h)
    · rintro (h | h | h)
      · exact .inl (.inl h)
      · exact .inl (.inr h)
      · exact .inr h
theorem firstsL_nodup : ∀ {l acc : List Int}, acc.Nodup → (firstsL acc l).Nodup
  | [], acc, n => n
  | x :: l, acc, n => by
    show (firstsL (addT acc x) l).Nodup
    exact firstsL_nodup (addT_nodup n)
theorem firsts_from {y : Int} : ∀ {rows : List (List Int)} {acc : List Int}, y ∈ rows.foldl firstsL acc ↔ y ∈ acc ∨ ∃ r ∈ rows, y ∈ r
  | [], acc => by simp
  | r :: rows, acc => by
    rw [List.foldl_cons, firsts_from, firstsL_mem]
    constructor
    · rintro ((h | h) | ⟨q, hq, h⟩)
      · exact .inl h
      · exact .inr ⟨r, by simp, h⟩
      · exact .inr ⟨q, by simp [hq], h⟩
    · rintro (h | ⟨q, hq, h⟩)
      · exact .inl (.inl h)
      · rcases List.mem_cons.mp hq with rfl | hq
        · exact .inl (.inr h)
        · exact .inr ⟨q, hq, h⟩
theorem firsts_mem {y : Int} {rows : List (List Int)} : y ∈ firsts rows ↔ ∃ r ∈ rows, y ∈ r := by
  unfold firsts
  rw [firsts_from]
  simp
theorem firsts_nd : ∀ {rows : List (List Int)} {acc : List Int}, acc.Nodup → (rows.foldl firstsL acc).Nodup
  | [], acc, n => n
  | r :: rows, acc, n => by
    rw [List.foldl_cons]
    exact firsts_nd (firstsL_nodup n)
theorem firsts_nodup (rows : List (List Int)) : (firsts rows).Nodup := firsts_nd (by simp)
theorem firsts_take {rows : List (List Int)} {i : Nat} {r : List Int} (h : rows[i]? = some r) : firsts (rows.take (i + 1)) = firstsL (firsts (rows.take i)) r := by
  have e : rows.take (i + 1) = rows.take i ++ [r] := by
    rw [List.take_succ, h]
    rfl
  rw [e]
  unfold firsts
  rw [List.foldl_append]
  rfl
theorem firstsL_take {acc r : List Int} {j : Nat} {x : Int} (h : r[j]? = some x) : firstsL acc (r.take (j + 1)) = addT (firstsL acc (r.take j)) x := by
  have e : r.take (j + 1) = r.take j ++ [x] := by
    rw [List.take_succ, h]
    rfl
  rw [e]
  unfold firstsL
  rw [List.foldl_append]
  rfl
theorem small_len {n : Int} {th : List Int} (nd : th.Nodup) (hin : ∀ x ∈ th, 0 ≤ x ∧ x < n) : th.length ≤ n.toNat := by
  have h2 : th ⊆ (List.range n.toNat).map fun i : Nat => (i : Int) := fun y hy => by
    have := hin y hy
    exact List.mem_map.mpr ⟨y.toNat, List.mem_range.mpr (by omega), by omega⟩
  have := nodup_le nd h2
  rwa [List.length_map, List.length_range] at this
def NearT (th : List Int) (rows : List (List Int)) (ms : List Nat) : Prop :=
  ms.length = th.length ∧ ∀ (i m : Nat), ms[i]? = some m → ∀ j : Nat, m.testBit j = decide (j < th.length ∧ tiedB rows (th.getD i 0) (th.getD j 0) = true)
def NearTI (th : List Int) (rows : List (List Int)) (r done : List Int) (ms : List Nat) : Prop :=
  ms.length = th.length ∧ ∀ (i m : Nat), ms[i]? = some m → ∀ j : Nat, m.testBit j = decide (j < th.length ∧ (tiedB rows (th.getD i 0) (th.getD j 0) = true ∨ (th.getD i 0 ∈ done ∧ th.getD j 0 ∈ r)))
theorem neart_start (th : List Int) : NearT th [] (List.replicate th.length 0) :=
  ⟨List.length_replicate, fun i m hm j => by
    have hmem := List.mem_of_getElem? hm
    rw [(List.mem_replicate.mp hmem).2]
    simp [tiedB]⟩
theorem neart_in {th : List Int} {rows : List (List Int)} {r : List Int} {ms : List Nat} (N : NearT th rows ms) : NearTI th rows r [] ms :=
  ⟨N.1, fun i m hm j => by rw [N.2 i m hm j]; simp⟩
theorem tied_take {rows : List (List Int)} {r : List Int} {i : Nat} (h : rows[i]? = some r) (x y : Int) : tiedB (rows.take (i + 1)) x y = (tiedB (rows.take i) x y || (decide (x ∈ r) && decide (y ∈ r))) := by
  have e : rows.take (i + 1) = rows.take i ++ [r] := by
    rw [List.take_succ, h]
    rfl
  rw [e]
  unfold tiedB
  rw [List.any_append]
  simp
theorem neart_end {th : List Int} {rows : List (List Int)} {r : List Int} {i : Nat} {ms : List Nat} (h : rows[i]? = some r) (N : NearTI th (rows.take i) r r ms) : NearT th (rows.take (i + 1)) ms := by
  refine ⟨N.1, fun x m hm y => ?_⟩
  rw [N.2 x m hm y, tied_take h]
  congr 1
  apply propext
  simp [Bool.or_eq_true, Bool.and_eq_true]
def idxs (th r : List Int) : List Int := r.map fun x => ((th.idxOf x : Nat) : Int)
theorem idxs_mem {th r : List Int} (nd : th.Nodup) (hs : ∀ x ∈ r, x ∈ th) (j : Nat) : (j : Int) ∈ idxs th r ↔ j < th.length ∧ th.getD j 0 ∈ r := by
  unfold idxs
  rw [List.mem_map]
  constructor
  · rintro ⟨y, hy, e⟩
    have e2 : th.idxOf y = j := by omega
    have hl : th.idxOf y < th.length := List.idxOf_lt_length_of_mem (hs y hy)
    rw [e2] at hl
    refine ⟨hl, ?_⟩
    rw [List.getD_eq_getElem?_getD, List.getElem?_eq_getElem hl]
    have : th[j] = y := by
      subst e2
      exact List.getElem_idxOf hl
    rw [Option.getD_some, this]
    exact hy
  · rintro ⟨hl, hy⟩
    refine ⟨_, hy, ?_⟩
    have : th.idxOf (th.getD j 0) = j := idxOf_at nd (by rw [List.getD_eq_getElem?_getD, List.getElem?_eq_getElem hl]; rfl)
    rw [this]
theorem neart_step {th : List Int} {rows : List (List Int)} {r : List Int} {j : Nat} {x : Int} {ms : List Nat} {m : Nat} (nd : th.Nodup) (hs : ∀ x ∈ r, x ∈ th) (h : r[j]? = some x) (N : NearTI th rows r (r.take j) ms) (hm : ms[th.idxOf x]? = some m) :
    NearTI th rows r (r.take (j + 1)) (ms.set (th.idxOf x) (m ||| maskL (idxs th r))) := by
  obtain ⟨hl, hb⟩ := N
  have hx : th.idxOf x < ms.length := (List.getElem?_eq_some_iff.mp hm).1
  have hxr : x ∈ r := List.mem_of_getElem? h
  have hxt : x ∈ th := hs x hxr
  have et : r.take (j + 1) = r.take j ++ [x] := by
    rw [List.take_succ, h]
    rfl
  have h0 : ∀ z ∈ idxs th r, 0 ≤ z := fun z hz => by
    obtain ⟨y, _, rfl⟩ := List.mem_map.mp hz
    omega
  have ex : th.getD (th.idxOf x) 0 = x := by
    have hlt := List.idxOf_lt_length_of_mem hxt
    rw [List.getD_eq_getElem?_getD, List.getElem?_eq_getElem hlt, Option.getD_some]
    exact List.getElem_idxOf hlt
  refine ⟨by rw [List.length_set]; exact hl, fun z m2 hz y => ?_⟩
  rw [et]
  by_cases e : z = th.idxOf x
  · subst e
    rw [List.getElem?_set_self hx] at hz
    cases hz
    rw [Nat.testBit_or, hb _ m hm y, maskL_bit h0, ex]
    have key := idxs_mem nd hs y
    generalize th.getD y 0 = u at key ⊢
    by_cases c1 : y < th.length <;> by_cases c2 : u ∈ r <;> by_cases c3 : x ∈ List.take j r <;> cases c4 : tiedB rows x u <;> simp [key, c1, c2, c3, c4]
  · rw [List.getElem?_set_ne (fun q => e q.symm)] at hz
    rw [hb z m2 hz y]
    have hz2 : z < th.length := by rw [← hl]; exact (List.getElem?_eq_some_iff.mp hz).1
    have : ¬ th.getD z 0 = x := fun q => e (by
      rw [← q]
      exact (idxOf_at nd (by rw [List.getD_eq_getElem?_getD, List.getElem?_eq_getElem hz2]; rfl)).symm)
    generalize th.getD z 0 = u at this ⊢
    simp [this]
/-- for each thing told how many are tied to it, itself left out; halved -/
def tieC (rows : List (List Int)) : Int := ((firsts rows).map fun x => (((firsts rows).filter fun y => tiedB rows x y).length : Int) - 1).sum / 2
theorem neart_count {th : List Int} {rows : List (List Int)} {ms : List Nat} {i m : Nat} (N : NearT th rows ms) (hm : ms[i]? = some m) :
    m < 2 ^ th.length ∧ (bitL th.length m).length = (th.filter fun y => tiedB rows (th.getD i 0) y).length := by
  refine ⟨lt_of_bits fun j hj => ?_, ?_⟩
  · rw [N.2 i m hm j] at hj
    exact (of_decide_eq_true hj).1
  · have e := filter_map_range (fun y => tiedB rows (th.getD i 0) y) (fun y => y) 0 th
    rw [List.map_id'] at e
    rw [← e, List.length_map]
    unfold bitL
    congr 1
    refine List.filter_congr fun j hj => ?_
    rw [N.2 i m hm j]
    have := List.mem_range.mp hj
    simp [this]
end LK
/-! what stands while the law's state (a list at S) is written -/
namespace LK
open PySem PySem.Spec PyProof.Rows L2
def hide (S : Addr) (H : Hp) : Hp := fun b => if b = S then none else H b
theorem hide_self (S : Addr) (H : Hp) : hide S H S = none := by
  unfold hide
  rw [if_pos rfl]
theorem hide_ne {S b : Addr} {H : Hp} (h : b ≠ S) : hide S H b = H b := by
  unfold hide
  rw [if_neg h]
theorem hide_same (S : Addr) (H : Hp) : Same (hide S H) H := fun b u e => by
  by_cases h : b = S
  · subst h
    rw [hide_self] at e
    cases e
  · rw [hide_ne h] at e
    exact e
theorem hide_get {S b : Addr} {H : Hp} {u : HO} (e : hide S H b = some u) : H b = some u := hide_same S H b u e
theorem hide_mono {S : Addr} {H H' : Hp} (s : Same H H') : Same (hide S H) (hide S H') := fun b u e => by
  by_cases h : b = S
  · subst h
    rw [hide_self] at e
    cases e
  · rw [hide_ne h] at e ⊢
    exact s _ _ e
theorem hide_upd_self {S : Addr} {H : Hp} {o : HO} : hide S (upd H S o) = hide S H := by
  funext b
  by_cases h : b = S
  · subst h
    rw [hide_self, hide_self]
  · rw [hide_ne h, hide_ne h, upd_ne h]
theorem hide_upd {S p : Addr} {H : Hp} {o : HO} (h : p ≠ S) : hide S (upd H p o) = upd (hide S H) p o := by
  funext b
  by_cases e : b = S
  · subst e
    rw [hide_self, upd_ne (Ne.symm h), hide_self]
  · rw [hide_ne e]
    by_cases e2 : b = p
    · subst e2
      rw [upd_same, upd_same]
    · rw [upd_ne e2, upd_ne e2, hide_ne e]
/-- the law's state: what is left of a big cell, the mix (p is not told of) -/
structure StOk (H : Hp) (S p : Addr) : Prop where
  ex : ∃ (big mix : Int), H S = some (.lst [.int big, .int mix]) ∧ 0 ≤ mix ∧ mix < 2147483123
theorem StOk.atS {H : Hp} {S p : Addr} (h : StOk H S p) : ∃ zs, H S = some (.lst zs) := by
  obtain ⟨_, _, e, _⟩ := h.ex
  exact ⟨_, e⟩
theorem StOk.same {H H' : Hp} {S p : Addr} (h : StOk H S p) (s : Same H H') : StOk H' S p := by
  obtain ⟨big, mix, h1, h4⟩ := h.ex
  exact ⟨big, mix, s _ _ h1, h4⟩
theorem StOk.upd {H : Hp} {S p A : Addr} {o : HO} (h : StOk H S p) (n1 : A ≠ S) : StOk (L2.upd H A o) S p := by
  obtain ⟨big, mix, h1, h4⟩ := h.ex
  exact ⟨big, mix, by rw [upd_ne n1.symm]; exact h1, h4⟩
/-- all but the state stands, the state is one -/
structure Mv (S p : Addr) (H H' : Hp) : Prop where
  same : Same (hide S H) (hide S H')
  ok : StOk H' S p
theorem Mv.refl {S p : Addr} {H : Hp} (h : StOk H S p) : Mv S p H H := ⟨Same.refl _, h⟩
theorem Mv.trans {S p : Addr} {H H' H'' : Hp} (a : Mv S p H H') (b : Mv S p H' H'') : Mv S p H H'' := ⟨a.same.trans b.same, b.ok⟩
theorem Mv.of {S p : Addr} {H H' : Hp} (h : StOk H S p) (s : Same H H') : Mv S p H H' := ⟨hide_mono s, h.same s⟩
theorem Mv.then {S p : Addr} {H H' H'' : Hp} (a : Mv S p H H') (s : Same H' H'') : Mv S p H H'' := a.trans (.of a.ok s)
theorem free_ne {S p q : Addr} {H : Hp} (h : StOk H S p) (n : H q = none) : q ≠ S := by
  obtain ⟨zs, e⟩ := h.atS
  exact fun z => by rw [z, e] at n; cases n
/-- what was laid anew may be written -/
theorem Mv.put {S p A : Addr} {H H' : Hp} {o : HO} (h : StOk H S p) (n : H A = none) (a : Mv S p H H') : Mv S p H (L2.upd H' A o) := by
  have n1 := free_ne h n
  refine ⟨fun b u e => ?_, a.ok.upd n1⟩
  rw [hide_upd n1, upd_ne]
  · exact a.same _ _ e
  · intro q
    subst q
    rw [hide_ne n1, n] at e
    cases e
theorem Mv.free {S p q : Addr} {H H' : Hp} (a : Mv S p H H') (n : H' q = none) : H q = none := by
  by_cases e : q = S
  · subst e
    obtain ⟨zs, e⟩ := a.ok.atS
    rw [e] at n
    cases n
  · cases h : H q with
    | none => rfl
    | some u =>
      have := a.same q u (by rw [hide_ne e]; exact h)
      rw [hide_ne e, n] at this
      cases this
theorem Mv.get {S p b : Addr} {H H' : Hp} {o : HO} (a : Mv S p H H') (n : b ≠ S) (e : H b = some o) : H' b = some o := by
  have := a.same b o (by rw [hide_ne n]; exact e)
  exact hide_get this
theorem Mv.rp {K : PySem.W.Frag} {S p : Addr} {H H' : Hp} {v : V} {d : PyData} (a : Mv S p H H') (r : Rp K (hide S H) v d) : Rp K (hide S H') v d := r.same a.same
theorem Mv.all {K : PySem.W.Frag} {S p : Addr} {H H' : Hp} {v : List V} {d : List PyData} (a : Mv S p H H') (r : RpAll K (hide S H) v d) : RpAll K (hide S H') v d := r.same a.same
theorem rp_show {K : PySem.W.Frag} {S : Addr} {H : Hp} {v : V} {d : PyData} (r : Rp K (hide S H) v d) : Rp K H v d := r.same (hide_same S H)
theorem hide_free {S p : Addr} {H : Hp} (n : H p = none) : hide S H p = none := by
  by_cases e : p = S
  · subst e
    exact hide_self _ _
  · rw [hide_ne e]
    exact n
theorem seqT_hide {K : PySem.W.Frag} {H : Hp} {S a : Addr} {zs xs : List V} (hS : H S = some (.lst zs)) (s : SqT K H a xs) : SqT K (hide S H) a xs := by
  have ne : ∀ o, H a = some o → (∀ zs, o ≠ .lst zs) → hide S H a = some o := fun o h n => by
    rw [hide_ne]
    · exact h
    · intro e
      subst e
      rw [hS] at h
      exact n _ (Option.some.inj h).symm
  rcases s with (h | ⟨o, h⟩) | h
  · exact .inl (.inl (ne _ h fun _ q => by cases q))
  · exact .inl (.inr ⟨o, ne _ h fun _ q => by cases q⟩)
  · exact .inr h
mutual
theorem rp_hideL {K : PySem.W.Frag} {H : Hp} {S : Addr} {zs : List V} (hS : H S = some (.lst zs)) : ∀ {d : PyData} {v : V}, noL d = true → Rp K H v d → Rp K (hide S H) v d
  | .none, _, _, h => by cases h; exact .non
  | .bool b, _, _, h => by cases h; exact .bl b
  | .int i, _, _, h => by cases h; exact .int i
  | .str x, _, _, h => by cases h; exact .str x
  | .list ds, _, n, h => by simp [noL] at n
  | .tuple ds, _, n, h => by
    cases h with
    | tup s l r => exact .tup (seqT_hide hS s) l (rpAll_hideL hS (by simpa [noL] using n) r)
  | .dict _, _, _, h => by cases h
theorem rpAll_hideL {K : PySem.W.Frag} {H : Hp} {S : Addr} {zs : List V} (hS : H S = some (.lst zs)) : ∀ {ds : List PyData} {vs : List V}, noLs ds = true → RpAll K H vs ds → RpAll K (hide S H) vs ds
  | [], _, _, h => by cases h; exact .nil
  | d :: ds, _, n, h => by
    cases h with
    | cons a b =>
      unfold noLs at n
      rw [Bool.and_eq_true] at n
      exact .cons (rp_hideL hS n.1 a) (rpAll_hideL hS n.2 b)
end
theorem rp_hide {K : PySem.W.Frag} {H : Hp} {S p : Addr} {v : V} {d : PyData} (h : StOk H S p) (n : noL d = true) (r : Rp K H v d) : Rp K (hide S H) v d := by
  obtain ⟨zs, e⟩ := h.atS
  exact rp_hideL e n r
theorem noL_book (n : Int) (rows : List (List Int)) : noL (bookD n rows) = true := by
  show noLs [.int n, .tuple (rows.map dTup)] = true
  unfold noLs
  unfold noLs
  unfold noLs
  show (noL (.tuple (rows.map dTup)) && true) = true
  rw [Bool.and_true]
  show noLs (rows.map dTup) = true
  exact noLs_rows rows
end LK
namespace LK
open PySem PySem.Spec PyProof.Rows L2
theorem pe_bmK {X : Cx} (K : PySem.W.Frag) {T id : String} {name : Str} {r : V → List V → Hp → VK → Prop} {o e : Expr} {es : List Expr} {to : TE} {t : TA} {apos cpos : Pos} (pa : PlainAttrs T) (slot : Slot T name id) (hty : typeOf (.builtin id) = pure (.type "method_descriptor")) (hm : MtR X id r) (ho : PE X o to) (ha : PA X (e :: es) t)
    (h : X.K = K := by rfl)
    (hbase : attributeBase o name X.env (eval o X.env) = eval o X.env := by rfl)
    (hfew : ((backTo cpos (starEach (e :: es) X.env)).all (fun x => !x.1) && (backToKw cpos (keywordEach [] X.env)).all (fun x => x.1.isSome)
      && decide ((e :: es).length + ([] : List Keyword).length + (if ([] : List Keyword).isEmpty then 0 else 1) < 30)) = true := by rfl)
    (hline : (apos.endLine == cpos.line) = true := by rfl) (hs : starEach (e :: es) X.env = (false, eval e X.env) :: starEach es X.env := by rfl) (hplain : (backTo cpos (starEach es X.env)).any (·.1) = false := by rfl) :
    PE X (.Call (.Attribute o name apos) (e :: es) [] cpos) (tBM K T r to t) := by
  subst h
  exact pe_bm pa slot hty hm ho ha hbase hfew hline hs hplain
end LK
namespace LK
open PySem PySem.Spec PyProof.Rows L2
def natI (l : List Nat) : List Int := l.map fun (i : Nat) => (i : Int)
def spMask (K : PySem.W.Frag) : Sp := fun vs H Q _ => ∃ a ns, vs = [.ref a] ∧ (SqL K H a (ns.map V.int) ∨ SqT K H a (ns.map V.int)) ∧ (∀ x ∈ ns, 0 ≤ x ∧ x ≤ 1000) ∧ Q (.int (maskL ns : Nat)) H
def spThings (K : PySem.W.Frag) : Sp := fun vs H Q _ => ∃ (m B : Nat), vs = [.int m] ∧ m < 2 ^ B ∧ B ≤ 1000 ∧ ∀ a H', Same H H' → TupI K H' a (natI (bitL B m)) → Q (.ref a) H'
/-- near of a book: each thing's mask -/
def NearOk (n : Int) (rows : List (List Int)) (ms : List Nat) : Prop := ms.length = n.toNat ∧ ∀ (x m : Nat), ms[x]? = some m → ∀ y : Nat, m.testBit y = decide (x ≠ y ∧ tiedB rows x y = true)
def spNear (K : PySem.W.Frag) : Sp := fun vs H Q _ => ∃ v n rows, vs = [v] ∧ Rp K H v (bookD n rows) ∧ RowsIn n rows ∧ 0 ≤ n ∧ n ≤ 1000 ∧ ∀ p ms H', Same H H' → H p = none → H' p = some (.lst ((natI ms).map V.int)) → NearOk n rows ms → Q (.ref p) H'
theorem maskL_take {ns : List Int} {i : Nat} {x : Int} (h : ns[i]? = some x) : maskL (ns.take (i + 1)) = maskL (ns.take i) ||| 2 ^ x.toNat := by
  unfold maskL
  have e : ns.take (i + 1) = ns.take i ++ [x] := by
    have hl := (List.getElem?_eq_some_iff.mp h).1
    rw [List.take_succ, h]
    rfl
  rw [e, List.foldl_append]
  rfl
theorem intAt {ns : List Int} {i : Nat} {v : V} (h : (ns.map V.int)[i]? = some v) : ∃ x, ns[i]? = some x ∧ v = .int x := by
  rw [List.getElem?_map] at h
  cases e : ns[i]? with
  | none => rw [e] at h; cases h
  | some x => rw [e] at h; exact ⟨x, rfl, (Option.some.inj h).symm⟩
theorem shl1 {x : Int} (h0 : 0 ≤ x) : (1 : Int) * 2 ^ x.toNat = ((2 ^ x.toNat : Nat) : Int) := by
  rw [Int.one_mul]
  norm_cast
theorem near_step {n : Int} {rows : List (List Int)} {r : List Int} {i : Nat} (h : rows[i]? = some r) (x y : Int) : tiedB (rows.take (i + 1)) x y = (tiedB (rows.take i) x y || (decide (x ∈ r) && decide (y ∈ r))) := by
  unfold tiedB
  have e : rows.take (i + 1) = rows.take i ++ [r] := by
    rw [List.take_succ, h]
    rfl
  rw [e, List.any_append]
  simp
section
variable {P : Program} {w : World} {K : PySem.W.Frag} {mg : Str → Option Value} {base : Heap} {ad : Nat → Addr} {fd : Nat → FuncData}
theorem ok_mask_of (T : Txt K mg ad fd) : FnOk P w K mg base CX0 1 (ad 27) (fd 27) ["things"] (spMask K) := by
  refine T.F_mask_of.ok sc_mask_of (fun vs H Q E h => ?_) (fun cdv A outer s H vs Q E hr h => ?_)
  · obtain ⟨a, ns, rfl, _⟩ := h
    rfl
  · obtain ⟨a, ns, rfl, hs, hb, k⟩ := h
    refine ⟨_, (pss_cons (ps_set (i := 1) sc_mask_of.nd rfl (Or.inl rfl) pe_int)
  (pss_cons (ps_for PassesOwn.never rfl (piS K (pv 0)) (pg_name (i := 2) (x := "thing") sc_mask_of.nd rfl (Or.inl rfl))
  (pss_one (ps_set (i := 1) sc_mask_of.nd rfl (Or.inl rfl) (pe_op op_or (pv 1) (pe_op op_shl pe_int (pv 2))))))
  (pss_one (ps_ret (pv 1))))), ?_⟩
    have turn : ∀ (i : Nat) (v : V) (σ : L2.St) (H1 : Hp), (ns.map V.int)[i]? = some v → (∃ u, σ = [some (.ref a), some (.int (maskL (ns.take i) : Nat)), u] ∧ H1 = H) →
      gName 2 v σ H1 fun σ2 H2 => ∃ z, σ2[1]? = some (some z) ∧ ∃ i1 j, 1 = i1 ∧ σ2[2]? = some (some (.int j)) ∧ CPow i1 j ∧ ∃ x y, z = .int x ∧ (.int (i1 * 2 ^ j.toNat) : V) = .int y ∧ (∃ u, σ2.set 1 (some (.int (Builtin.bitOr x y))) = [some (.ref a), some (.int (maskL (ns.take (i + 1)) : Nat)), u] ∧ H2 = H) := by
      rintro i v σ H1 hi ⟨u, rfl, rfl⟩
      obtain ⟨x, hx, rfl⟩ := intAt hi
      obtain ⟨h0, h1⟩ := hb x (List.mem_of_getElem? hx)
      refine ⟨_, rfl, 1, x, rfl, rfl, ⟨h0, by omega, by decide⟩, _, _, rfl, rfl, some (.int x), ?_, rfl⟩
      rw [shl1 h0, or_nat, ← maskL_take hx]
      rfl
    have fin : ∀ (σ : L2.St) (H1 : Hp), (∃ u, σ = [some (.ref a), some (.int (maskL (ns.take (ns.map V.int).length) : Nat)), u] ∧ H1 = H) → ∃ z, σ[1]? = some (some z) ∧ Q z H1 := by
      rintro σ H1 ⟨u, rfl, rfl⟩
      refine ⟨_, rfl, ?_⟩
      rw [List.length_map, List.take_length]
      exact k
    refine ⟨_, rfl, a, rfl, ?_⟩
    rcases hs with hs | hs
    · refine .inl ⟨⟨_, hs⟩, for_list (K := K) (a := a) (xs := ns.map V.int) (fun i σ H1 => ∃ u, σ = [some (.ref a), some (.int (maskL (ns.take i) : Nat)), u] ∧ H1 = H) ⟨none, rfl, rfl⟩ (fun i σ H1 _ ⟨_, _, e⟩ => by rw [e]; exact hs) (fun i v σ H1 hi hp => ?_) fin⟩
      obtain ⟨z, h1, i1, j, rfl, h2, h3, x, y, h4, h5, h6⟩ := turn i v σ H1 hi hp
      exact ⟨z, h1, _, h2, _, _, rfl, rfl, h3, x, y, h4, h5, h6⟩
    · refine .inr ⟨⟨_, hs⟩, for_tup (K := K) (a := a) (xs := ns.map V.int) (fun i σ H1 => ∃ u, σ = [some (.ref a), some (.int (maskL (ns.take i) : Nat)), u] ∧ H1 = H) ⟨none, rfl, rfl⟩ (fun i σ H1 _ ⟨_, _, e⟩ => by rw [e]; exact hs) (fun i v σ H1 hi hp => ?_) fin⟩
      obtain ⟨z, h1, i1, j, rfl, h2, h3, x, y, h4, h5, h6⟩ := turn i v σ H1 hi hp
      exact ⟨z, h1, _, h2, _, _, rfl, rfl, h3, x, y, h4, h5, h6⟩
theorem ok_things_of (T : Txt K mg ad fd) : FnOk P w K mg base CX0 1 (ad 28) (fd 28) ["mask"] (spThings K) := by
  refine T.F_things_of.ok sc_things_of (fun vs H Q E h => ?_) (fun cdv A outer s H vs Q E hr h => ?_)
  · obtain ⟨m, B, rfl, _⟩ := h
    rfl
  · obtain ⟨m, B, rfl, hm, hB, k⟩ := h
    refine ⟨_, (pss_cons (ps_set (i := 1) sc_things_of.nd rfl (Or.inl rfl) (pe_lst pa_nil))
  (pss_cons (ps_set (i := 2) sc_things_of.nd rfl (Or.inl rfl) (pv 0))
  (pss_cons (ps_while PassesOwn.never (pt_truth (pv 2) (by intro _; rfl))
  (pss_cons (ps_set (i := 3) sc_things_of.nd rfl (Or.inl rfl) (pe_op op_and (pv 2) (pe_un un_neg (pv 2))))
  (pss_cons (ps_expr (pe_bmK K PySem.F.plainAttrs_list PySem.F.slot_list_append PySem.F.type_list_append mt_append (pv 1) (pa_cons (pe_op op_sub (pe_bits (pv 3)) pe_int) pa_nil)))
  (pss_one (ps_set (i := 2) sc_things_of.nd rfl (Or.inl rfl) (pe_op op_xor (pv 2) (pv 3)))))))
  (pss_one (ps_ret (pe_callTy (tupOf K) (by rfl) T.g_tuple (by decide +kernel) (pa_cons (pv 1) pa_nil))))))), ?_⟩
    refine ⟨(by show 0 ≤ sizeLine; decide), fun D hD => ⟨_, rfl, ?_⟩⟩
    have lb : ∀ z, (bitL B z).length ≤ B := fun z => by
      unfold bitL
      exact Nat.le_trans (List.length_filter_le _ _) (by rw [List.length_range]; exact Nat.le_refl _)
    show tWhile (fun σ H1 Q => tVar 2 σ H1 fun x H' => ∃ k, TruV K x H' k ∧ Q k H') _ _ [some (V.int (m : Nat)), some (V.ref D), some (V.int (m : Nat)), none] _
    refine while_by (fun σ H1 => ∃ (m' : Nat) (fs : List Nat) (lw : Option V), σ = [some (.int (m : Nat)), some (.ref D), some (.int (m' : Nat)), lw] ∧ Fill H D H1 ((natI fs).map V.int) ∧ m' < 2 ^ B ∧ fs ++ bitL B m' = bitL B m)
      (fun (σ : L2.St) (_ : Hp) => match σ[2]? with | some (some (V.int z)) => (bitL B z.toNat).length | _ => 0) ⟨m, [], none, rfl, Fill.start hD, hm, rfl⟩ (fun σ H1 hp => ?_) (fun σ H1 Q1 Q2 hq ⟨v, e, kk, t, q⟩ => ⟨v, e, kk, t, hq _ _ q⟩)
    obtain ⟨m', fs, lw, rfl, fl, hm', he⟩ := hp
    refine ⟨_, rfl, _, rfl, ?_⟩
    by_cases c : m' = 0
    · subst c
      have ec : (((0 : Nat) : Int) != 0) = false := by decide
      rw [ec]
      refine iteF ⟨_, rfl, ?_⟩
      rw [bitL_zero, List.append_nil] at he
      subst he
      dsimp only [tNil]
      exact tupL_use (SqL.of fl.2) fun p H2 s2 hp => k _ _ (fl.1.trans s2) ⟨hp, by unfold natI; rw [List.length_map]; exact Nat.le_trans (lb m) hB⟩
    · have ec : (((m' : Nat) : Int) != 0) = true := by
        simp
        exact c
      rw [ec]
      obtain ⟨t, h1, h2, h3⟩ := and_neg (m := m') (by omega)
      refine iteT ⟨_, rfl, _, rfl, _, rfl, _, _, rfl, rfl, ?_⟩
      show ∃ v, _
      have lf : fs.length ≤ B := by
        have := lb m
        rw [← he, List.length_append] at this
        omega
      have hs := bitL_step hm' h2 h3
      refine ⟨_, rfl, .inl ⟨rfl, _, SqL.of fl.2⟩, _, rfl, _, rfl, _, _, rfl, rfl, D, _, _, rfl, rfl, fl.2, ?_, ?_⟩
      · unfold natI
        rw [List.length_map, List.length_map]
        exact small1000 (by omega)
      · have ex : Builtin.bitXor (m' : Int) (Builtin.bitAnd (m' : Int) (-(m' : Int))) = ((m' ^^^ 2 ^ t : Nat) : Int) := by rw [h1, xor_nat]
        have eb : ((Builtin.Int.intBits (Builtin.bitAnd (m' : Int) (-(m' : Int))) : Nat) : Int) - 1 = (t : Nat) := by
          rw [h1, bits_pow]
          omega
        refine ⟨_, rfl, _, rfl, _, _, rfl, rfl, ⟨m' ^^^ 2 ^ t, fs ++ [t], _, congrArg (fun z => [some (V.int (m : Nat)), some (V.ref D), some (V.int z), some (V.int (Builtin.bitAnd (m' : Int) (-(m' : Int))))]) ex, ?_, xor_lt hm' h2, ?_⟩, ?_⟩
        · have e3 : (natI (fs ++ [t])).map V.int = (natI fs).map V.int ++ [V.int (((Builtin.Int.intBits (Builtin.bitAnd (m' : Int) (-(m' : Int))) : Nat) : Int) - 1)] := by
            rw [eb]
            unfold natI
            rw [List.map_append, List.map_append]
            rfl
          rw [e3]
          exact fl.push hD (Same.refl _)
        · rw [List.append_assoc, List.singleton_append, ← hs]
          exact he
        · show (bitL B (Builtin.bitXor (m' : Int) (Builtin.bitAnd (m' : Int) (-(m' : Int)))).toNat).length < (bitL B ((m' : Nat) : Int).toNat).length
          rw [ex]
          have e4 : ((m' : Nat) : Int).toNat = m' := by omega
          have e5 : ((m' ^^^ 2 ^ t : Nat) : Int).toNat = m' ^^^ 2 ^ t := by omega
          rw [e4, e5, hs]
          exact Nat.lt_succ_self _
end
end LK
namespace LK
open PySem PySem.Spec PyProof.Rows L2
theorem natI_length (l : List Nat) : (natI l).length = l.length := by unfold natI; rw [List.length_map]
theorem natI_get {l : List Nat} {i m : Nat} (h : l[i]? = some m) : ((natI l).map V.int)[i]? = some (.int (m : Nat)) := by
  unfold natI
  rw [List.map_map, List.getElem?_map, h]
  rfl
theorem natI_set {l : List Nat} {i m : Nat} : ((natI l).map V.int).set i (.int (m : Nat)) = (natI (l.set i m)).map V.int := by
  unfold natI
  rw [List.map_map, List.map_map, List.map_set]
  rfl
theorem ixN_nat {n j : Nat} (hj : j < n) : ixN n (j : Int) = some j := by
  unfold ixN
  rw [if_pos (by omega), if_pos (by omega)]
  simp
/-- within row r, behind j of its things -/
def NearIn (n : Int) (rows : List (List Int)) (r done : List Int) (ms : List Nat) : Prop :=
  ms.length = n.toNat ∧ ∀ (x m : Nat), ms[x]? = some m → ∀ y : Nat, m.testBit y = decide (x ≠ y ∧ (tiedB rows x y = true ∨ ((x : Int) ∈ done ∧ (y : Int) ∈ r)))
theorem near_in_step {n : Int} {rows : List (List Int)} {r : List Int} {j : Nat} {x : Nat} {ms : List Nat} {m : Nat} (hr : ∀ z ∈ r, 0 ≤ z) (h : r[j]? = some (x : Int)) (N : NearIn n rows r (r.take j) ms) (hm : ms[x]? = some m) :
    NearIn n rows r (r.take (j + 1)) (ms.set x (m ||| (maskL r ^^^ 2 ^ x))) := by
  obtain ⟨hl, hb⟩ := N
  have hx : x < ms.length := (List.getElem?_eq_some_iff.mp hm).1
  have hxr : (x : Int) ∈ r := List.mem_of_getElem? h
  have et : r.take (j + 1) = r.take j ++ [(x : Int)] := by
    rw [List.take_succ, h]
    rfl
  refine ⟨by rw [List.length_set]; exact hl, fun z m2 hz y => ?_⟩
  rw [et]
  by_cases e : z = x
  · subst e
    rw [List.getElem?_set_self hx] at hz
    cases hz
    rw [Nat.testBit_or, xor_pow, hb z m hm y, maskL_bit hr]
    by_cases e2 : z = y
    · subst e2
      simp [hxr]
    · by_cases hy : (y : Int) ∈ r
      · simp [e2, hy]
      · simp [e2, hy]
  · rw [List.getElem?_set_ne (fun q => e q.symm)] at hz
    rw [hb z m2 hz y]
    have : ¬ ((z : Int) = (x : Int)) := fun q => e (by omega)
    simp [this]
theorem near_in_end {n : Int} {rows : List (List Int)} {r : List Int} {i : Nat} {ms : List Nat} (h : rows[i]? = some r) (N : NearIn n (rows.take i) r r ms) : NearOk n (rows.take (i + 1)) ms := by
  refine ⟨N.1, fun x m hm y => ?_⟩
  rw [N.2 x m hm y, near_step (n := n) h]
  congr 1
  apply propext
  simp [Bool.or_eq_true, Bool.and_eq_true]
theorem near_in_start {n : Int} {rows : List (List Int)} {r : List Int} {ms : List Nat} (N : NearOk n rows ms) : NearIn n rows r [] ms :=
  ⟨N.1, fun x m hm y => by rw [N.2 x m hm y]; simp⟩
theorem near_start (n : Int) : NearOk n [] (List.replicate n.toNat 0) :=
  ⟨List.length_replicate, fun x m hm y => by
    have hmem := List.mem_of_getElem? hm
    rw [(List.mem_replicate.mp hmem).2]
    simp [tiedB]⟩
theorem flat_zero (k : Nat) : (List.replicate k [V.int 0]).flatten = (natI (List.replicate k 0)).map V.int := by
  induction k with
  | zero => rfl
  | succ k ih =>
    rw [List.replicate_succ, List.flatten_cons, ih]
    rfl
theorem rowAt {rows : List (List Int)} {n : Int} (h : RowsIn n rows) {i : Nat} {r : List Int} (e : rows[i]? = some r) : ∀ x ∈ r, 0 ≤ x ∧ x < n := h r (List.mem_of_getElem? e)
theorem same_upd2 {H H1 : Hp} {N : Addr} {o : HO} (n : H N = none) (s : Same H H1) : Same H (upd H1 N o) := fun b u e => by
  rw [upd_ne (ne_of_none e n)]
  exact s _ _ e
section
variable {P : Program} {w : World} {K : PySem.W.Frag} {mg : Str → Option Value} {base : Heap} {ad : Nat → Addr} {fd : Nat → FuncData}
theorem ok_near_masks (T : Txt K mg ad fd) : FnOk P w K mg base CX0 2 (ad 30) (fd 30) ["book"] (spNear K) := by
  refine T.F_near_masks.ok sc_near_masks (fun vs H Q E h => ?_) (fun cdv A outer s H vs Q E hr h => ?_)
  · obtain ⟨v, n, rows, rfl, _⟩ := h
    rfl
  · obtain ⟨v, n, rows, rfl, h, hin, h0, h1, k⟩ := h
    obtain ⟨b, L, xs, rfl, hb, hL, hz, hr2⟩ := rp_book h
    have lx : xs.length = rows.length := by rw [hr2.length, List.length_map]
    refine ⟨_, (pss_cons (ps_asg (pv 0) (pg_tup rfl (pgs_cons (pg_name (i := 3) (x := "size") sc_near_masks.nd rfl (Or.inl rfl)) (pgs_cons (pg_name (i := 4) (x := "lists") sc_near_masks.nd rfl (Or.inl rfl)) pgs_nil))))
  (pss_cons (ps_set (i := 1) sc_near_masks.nd rfl (Or.inl rfl) (pe_op op_rep (pe_lst (pa_cons pe_int pa_nil)) (pv 3)))
  (pss_cons (ps_for PassesOwn.never rfl (piT K (pv 4)) (pg_name (i := 2) (x := "things") sc_near_masks.nd rfl (Or.inl rfl))
  (pss_cons (ps_set (i := 5) sc_near_masks.nd rfl (Or.inl rfl) (pe_call (ok_mask_of T) (hr.mono (by decide)) rfl T.m_mask_of T.F_mask_of.kp (b_mask_of T) .nil pass0 (pa_cons (pv 2) pa_nil)))
  (pss_one (ps_for PassesOwn.never rfl (piT K (pv 2)) (pg_name (i := 6) (x := "thing") sc_near_masks.nd rfl (Or.inl rfl))
  (pss_one (ps_asg (pe_op op_or (pe_ix (ixL K) (pv 1) (pv 6) (fun _ _ => rfl)) (pe_op op_xor (pv 5) (pe_op op_shl pe_int (pv 6)))) (pg_sub (pv 1) (pv 6) set_list)))))))
  (pss_one (ps_ret (pv 1)))))), ?_⟩
    refine ⟨_, rfl, b, _, rfl, hb, rfl, _, _, rfl, _, _, rfl, rfl, (by show 1 ≤ sizeLine; decide), fun D0 hD0 => ⟨_, rfl, D0, n, _, rfl, rfl, upd_same, by omega, by omega, ?_, fun N hN0 => ?_⟩⟩
    · show 1 * n.toNat ≤ sizeLine
      have : (1000 : Nat) ≤ sizeLine := by decide
      omega
    have hN : H N = none := (same_upd hD0).free hN0
    refine ⟨_, rfl, L, rfl, ⟨_, seqT (same_upd2 hN (same_upd hD0)) hL⟩, for_tup (K := K) (a := L) (xs := xs)
      (fun i σ H1 => ∃ (ms : List Nat) (v2 v5 v6 : Option V), σ = [some (.ref b), some (.ref N), v2, some (.int n), some (.ref L), v5, v6] ∧ Same H H1 ∧ H1 N = some (.lst ((natI ms).map V.int)) ∧ NearOk n (rows.take i) ms)
      ⟨List.replicate n.toNat 0, none, none, none, rfl, same_upd2 hN (same_upd hD0), by rw [upd_same, flat_zero], near_start n⟩ (fun i σ H1 _ ⟨_, _, _, _, _, s1, _⟩ => seqT s1 hL) (fun i x σ H1 hi ⟨ms, v2, v5, v6, e1, s1, hm1, nk⟩ => ?_) (fun σ H1 ⟨ms, v2, v5, v6, e1, s1, hm1, nk⟩ => ?_)⟩
    · subst e1
      obtain ⟨r, a, hrow, rfl, t⟩ := hr2.row hi
      have hin2 := rowAt hin hrow
      have t1 := t.same s1
      refine ⟨_, rfl, a, r, rfl, .inr t1.1, fun x hx => ⟨(hin2 x hx).1, by have := (hin2 x hx).2; omega⟩, ?_⟩
      refine ⟨_, rfl, a, rfl, ⟨_, t1.1⟩, for_tup (K := K) (a := a) (xs := r.map V.int)
        (fun j σ H1 => ∃ (ms : List Nat) (v6 : Option V), σ = [some (.ref b), some (.ref N), some (.ref a), some (.int n), some (.ref L), some (.int (maskL r : Nat)), v6] ∧ Same H H1 ∧ H1 N = some (.lst ((natI ms).map V.int)) ∧ NearIn n (rows.take i) r (r.take j) ms)
        ⟨ms, v6, rfl, s1, hm1, near_in_start nk⟩ (fun i σ H1 _ ⟨_, _, _, s1, _⟩ => seqT s1 t.1) (fun j x σ H2 hj ⟨ms2, v62, e2, s2, hm2, nk2⟩ => ?_) (fun σ H2 ⟨ms2, v62, e2, s2, hm2, nk2⟩ => ?_)⟩
      · subst e2
        obtain ⟨z, hz2, rfl⟩ := intAt hj
        obtain ⟨hz0, hz1⟩ := hin2 z (List.mem_of_getElem? hz2)
        obtain ⟨x, rfl⟩ : ∃ x : Nat, z = (x : Int) := ⟨z.toNat, by omega⟩
        have hxl : x < ms2.length := by rw [nk2.1]; omega
        obtain ⟨m, hm⟩ : ∃ m, ms2[x]? = some m := ⟨ms2[x], List.getElem?_eq_getElem hxl⟩
        refine ⟨_, rfl, _, rfl, N, _, _, _, rfl, rfl, SqL.of hm2, atI_nat (natI_get hm), ?_⟩
        refine ⟨_, rfl, _, rfl, 1, (x : Int), rfl, rfl, ⟨by omega, by omega, by decide⟩, _, _, rfl, rfl, _, _, rfl, rfl, _, rfl, _, rfl, N, _, (x : Int), x, rfl, rfl, hm2, ixN_nat (by rw [List.length_map, natI_length]; exact hxl), ?_⟩
        have ez : Builtin.bitOr (m : Int) (Builtin.bitXor (maskL r : Int) (1 * 2 ^ ((x : Int)).toNat)) = ((m ||| (maskL r ^^^ 2 ^ x) : Nat) : Int) := by
          rw [shl1 (by omega), xor_nat, or_nat]
          rfl
        refine ⟨ms2.set x (m ||| (maskL r ^^^ 2 ^ x)), _, rfl, same_upd2 hN s2, ?_, near_in_step (fun z hz => (hin2 z hz).1) hz2 nk2 hm⟩
        rw [upd_same]
        show some (HO.lst (((natI ms2).map V.int).set x (.int (Builtin.bitOr (m : Int) (Builtin.bitXor (maskL r : Int) (1 * 2 ^ ((x : Int)).toNat)))))) = _
        rw [ez, natI_set]
      · subst e2
        refine ⟨ms2, _, _, _, rfl, s2, hm2, ?_⟩
        rw [List.length_map, List.take_length] at nk2
        exact near_in_end hrow nk2
    · subst e1
      refine ⟨_, rfl, k N ms H1 s1 hN hm1 ?_⟩
      rw [lx, List.take_length] at nk
      exact nk
end
end LK
namespace LK
open PySem PySem.Spec PyProof.Rows L2
def nearN (n : Int) (rows : List (List Int)) (x : Int) : List Nat := (List.range n.toNat).filter fun (y : Nat) => decide (x ≠ (y : Int) ∧ tiedB rows x y = true)
theorem tied_mem {rows : List (List Int)} {x y : Int} (h : tiedB rows x y = true) : ∃ r ∈ rows, x ∈ r ∧ y ∈ r := by
  unfold tiedB at h
  obtain ⟨r, hr, h2⟩ := List.any_eq_true.mp h
  simp at h2
  exact ⟨r, hr, h2⟩
theorem tied_comm (rows : List (List Int)) (x y : Int) : tiedB rows x y = tiedB rows y x := by
  unfold tiedB
  congr 1
  funext r
  exact Bool.and_comm _ _
theorem near_bits {n : Int} {rows : List (List Int)} {ms : List Nat} (hin : RowsIn n rows) (N : NearOk n rows ms) {x m : Nat} (h : ms[x]? = some m) : m < 2 ^ n.toNat ∧ bitL n.toNat m = nearN n rows x := by
  have hb := N.2 x m h
  refine ⟨lt_of_bits fun i hi => ?_, ?_⟩
  · rw [hb i, decide_eq_true_eq] at hi
    obtain ⟨r, hr, _, hy⟩ := tied_mem hi.2
    have := hin r hr _ hy
    omega
  · unfold bitL nearN
    congr 1
    funext y
    rw [hb y]
    congr 1
    apply propext
    constructor
    · rintro ⟨a, b⟩
      exact ⟨by omega, b⟩
    · rintro ⟨a, b⟩
      exact ⟨by omega, b⟩
def nearOfX (n : Int) (rows : List (List Int)) (d : PyData) : Except (Str × Int) PyData := if isBelow n d then .ok (dTup (natI (nearN n rows (toInt d)))) else .error ("here", -1)
def BookIn (n : Int) (rows : List (List Int)) : Prop := RowsIn n rows ∧ 0 ≤ n ∧ n ≤ 1000
def isTiedX (n : Int) (rows : List (List Int)) (d e : PyData) : Except (Str × Int) PyData :=
  if isBelow n d then (if isBelow n e && decide (toInt e ≠ toInt d) then .ok (.bool (tiedB rows (toInt d) (toInt e))) else .error ("there", -1)) else .error ("here", -1)
def betweenN (n : Int) (rows : List (List Int)) (x y : Int) : List Nat := ((List.range n.toNat).filter fun (z : Nat) => decide ((x ≠ (z : Int) ∧ tiedB rows x z = true) ∧ (y ≠ (z : Int) ∧ tiedB rows y z = true))).filter fun (z : Nat) => decide (x < (z : Int)) && decide ((z : Int) < y)
def betweenX (n : Int) (rows : List (List Int)) (d : PyData) : Except (Str × Int) PyData :=
  if isTie n rows d then .ok (dTup (natI (betweenN n rows ((dInts d).getD 0 0) ((dInts d).getD 1 0)))) else .error ("tie", -1)
def spX2 (K : PySem.W.Frag) (C : Addr) (ok : Int → List (List Int) → Prop) (g : Int → List (List Int) → PyData → PyData → Except (Str × Int) PyData) : Sp :=
  fun vs H Q E => ∃ v u1 u2 d1 d2 n rows, vs = [v, u1, u2] ∧ Rp K H v (bookD n rows) ∧ Rp K H u1 d1 ∧ Rp K H u2 d2 ∧ ok n rows ∧ Out K C Q E H (g n rows d1 d2)
def spBetw (K : PySem.W.Frag) : Sp := fun vs H Q _ => ∃ (N : Addr) (x y : Nat) (n : Int) (rows : List (List Int)) (ms : List Nat), vs = [.ref N, .int x, .int y] ∧ H N = some (.lst ((natI ms).map V.int)) ∧ NearOk n rows ms ∧ BookIn n rows ∧ (x : Int) < n ∧ (y : Int) < n ∧
  ∀ p H', Same H H' → TupI K H' p (natI (betweenN n rows x y)) → Q (.ref p) H'
theorem filter_len {α : Type} {p : α → Bool} {l : List α} {k : Nat} (h : l.length ≤ k) : (l.filter p).length ≤ k := Nat.le_trans (List.length_filter_le _ _) h
end LK
namespace LK
open PySem PySem.Spec PyProof.Rows L2
/-- the ties, ascending -/
def tiesAt (n : Int) (rows : List (List Int)) (x : Nat) : List (List Int) := ((nearN n rows x).filter fun (y : Nat) => decide ((x : Int) < (y : Int))).map fun (y : Nat) => [(x : Int), (y : Int)]
def tiesL (n : Int) (rows : List (List Int)) : List (List Int) := (List.range n.toNat).flatMap (tiesAt n rows)
theorem range_gt : ∀ (n x : Nat), ((List.range n).filter fun (y : Nat) => decide ((x : Int) < (y : Int))).length ≤ n - 1 - x
  | 0, x => by simp
  | n + 1, x => by
    rw [List.range_succ, List.filter_append, List.length_append]
    have ih := range_gt n x
    by_cases c : (x : Int) < (n : Int)
    · have e : ([n].filter fun (y : Nat) => decide ((x : Int) < (y : Int))).length ≤ 1 := List.length_filter_le _ _
      omega
    · have e : ([n].filter fun (y : Nat) => decide ((x : Int) < (y : Int))) = [] := by simp; omega
      rw [e]
      have e2 : ((List.range n).filter fun (y : Nat) => decide ((x : Int) < (y : Int))) = [] := by
        rw [List.filter_eq_nil_iff]
        intro y hy
        have := List.mem_range.mp hy
        simp
        omega
      rw [e2]
      simp
theorem tiesAt_len (n : Int) (rows : List (List Int)) (x : Nat) : (tiesAt n rows x).length ≤ n.toNat - 1 - x := by
  unfold tiesAt nearN
  rw [List.length_map, List.filter_filter]
  have e : ((List.range n.toNat).filter fun (a : Nat) => decide ((x : Int) < (a : Int)) && decide ((x : Int) ≠ (a : Int) ∧ tiedB rows x a = true)).length ≤ ((List.range n.toNat).filter fun (y : Nat) => decide ((x : Int) < (y : Int))).length := by
    rw [← List.countP_eq_length_filter, ← List.countP_eq_length_filter]
    refine List.countP_mono_left fun y _ h => ?_
    simp only [Bool.and_eq_true] at h
    exact h.1
  exact Nat.le_trans e (range_gt _ _)
theorem sum_le {f g : Nat → Nat} : ∀ l : List Nat, (∀ x ∈ l, f x ≤ g x) → (l.map f).sum ≤ (l.map g).sum
  | [], _ => Nat.le_refl _
  | a :: l, h => by
    rw [List.map_cons, List.map_cons, List.sum_cons, List.sum_cons]
    exact Nat.add_le_add (h a (by simp)) (sum_le l fun x hx => h x (by simp [hx]))
theorem tri45 : ∀ n : Fin 46, ((List.range n.val).map fun x => n.val - 1 - x).sum ≤ 1000 := by decide +kernel
theorem tiesL_len {n : Int} (rows : List (List Int)) (h : n ≤ 45) : (tiesL n rows).length ≤ 1000 := by
  unfold tiesL
  rw [List.length_flatMap]
  have h1 := sum_le (f := fun x => (tiesAt n rows x).length) (g := fun x => n.toNat - 1 - x) (List.range n.toNat) fun x _ => tiesAt_len n rows x
  have h2 := tri45 ⟨n.toNat, by omega⟩
  exact Nat.le_trans h1 h2
def spTies (K : PySem.W.Frag) : Sp := fun vs H Q _ => ∃ v n rows, vs = [v] ∧ Rp K H v (bookD n rows) ∧ RowsIn n rows ∧ 0 ≤ n ∧ n ≤ 45 ∧ ∀ u H', Same H H' → Rp K H' u (.tuple ((tiesL n rows).map dTup)) → Q u H'
theorem seqT_upd {K : PySem.W.Frag} {H : Hp} {D a : Addr} {zs xs : List V} {o : HO} (hD : H D = some (.lst zs)) (s : SqT K H a xs) : SqT K (upd H D o) a xs := by
  rcases s with (s | ⟨u, s⟩) | s
  · exact .inl (.inl (by rw [upd_ne (ne_of s hD (by intro z; cases z))]; exact s))
  · exact .inl (.inr ⟨u, by rw [upd_ne (ne_of s hD (by intro z; cases z))]; exact s⟩)
  · exact .inr s
section
variable {P : Program} {w : World} {K : PySem.W.Frag} {mg : Str → Option Value} {base : Heap} {ad : Nat → Addr} {fd : Nat → FuncData}
theorem ok_ties_of (T : Txt K mg ad fd) : FnOk P w K mg base CX0 3 (ad 39) (fd 39) ["book"] (spTies K) := by
  refine T.F_ties_of.ok sc_ties_of (fun vs H Q E h => ?_) (fun cdv A outer s H vs Q E hr h => ?_)
  · obtain ⟨v, n, rows, rfl, _⟩ := h
    rfl
  · obtain ⟨v, n, rows, rfl, h, hin, h0, h1, k⟩ := h
    obtain ⟨b, L, xs, rfl, hb, hL, hz, hr2⟩ := rp_book h
    refine ⟨_, (pss_cons (ps_set (i := 1) sc_ties_of.nd rfl (Or.inr rfl) (pe_call (ok_near_masks T) (hr.mono (by decide)) rfl T.m_near_masks T.F_near_masks.kp (b_near_masks T) .nil pass0 (pa_cons (pv 0) pa_nil)))
  (pss_one (ps_ret (pe_callTy (tupOf K) (by rfl) T.g_tuple (by decide +kernel) (pa_cons (pe_lc2 (own := [("low", 2), ("high", 3)]) (vs1 := [3]) (g := gName 2) (g1 := gName 3) rfl sc_ties_of.nd (pi_range1 rfl T.g_range (pa_cons (pe_ix (ixT K) (pv 0) pe_int (fun _ _ => rfl)) pa_nil)) (blkOk_by (N := ["book", "near", "low", "high"]) (sc := defScope s_ties_of) (by decide +kernel)) (by decide) (fun _ _ _ _ _ => (pg_name (i := 2) (x := "low") sc_ties_of.nd rfl (Or.inl rfl))) (fun _ _ _ _ _ => pts_nil) (fun _ _ _ _ _ => (piT K (pe_call (ok_things_of T) (hr.mono (by decide)) rfl T.m_things_of T.F_things_of.kp (b_things_of T) .nil pass0 (pa_cons (pe_ix (ixL K) (pv 1) (pv 2) (fun _ _ => rfl)) pa_nil)))) (fun _ _ _ _ _ => (pg_name (i := 3) (x := "high") sc_ties_of.nd rfl (Or.inl rfl))) (fun _ _ _ _ _ => (pts_one (pt_cmpR op_lt (pv 2) (pv 3) (nomark _)))) (fun _ _ _ _ _ => (pe_tup (pa_cons (pv 2) (pa_cons (pv 3) pa_nil))))) pa_nil))))), ?_⟩
    refine ⟨_, rfl, _, n, rows, rfl, h, hin, h0, by omega, fun N ms H1 s1 hN hm nk => ?_⟩
    refine ⟨_, rfl, _, _, _, _, rfl, rfl, seqT s1 hb, rfl, n, rfl, by omega, by omega, fun D hD => ?_⟩
    have ND : N ≠ D := ne_of_none hm hD
    let Pv : Nat → Hp → Prop := fun i H2 => ∃ ys, Fill H1 D H2 ys ∧ RpAll K H2 ys (((List.range i).flatMap (tiesAt n rows)).map dTup)
    have nol : ∀ l : List (List Int), noLs (l.map dTup) = true := noLs_rows
    refine ⟨fun i m H2 => m = n.toNat - i ∧ i ≤ n.toNat ∧ Pv i H2, ⟨n.toNat, by omega, Nat.zero_le _, [], Fill.start hD, .nil⟩, ?_⟩
    rintro i m H2 ⟨rfl, hi, ys, fl, r⟩
    by_cases hlt : i < n.toNat
    · refine .inr ⟨hlt, Pv (i + 1), fun H' p' => ⟨n.toNat - (i + 1), by omega, rfl, hlt, p'⟩, fun x H3 y => ?_⟩
      obtain ⟨rfl, rfl⟩ := y
      refine ⟨rfl, ?_⟩
      have hxl : i < ms.length := by rw [nk.1]; exact hlt
      obtain ⟨m1, hm1⟩ : ∃ m, ms[i]? = some m := ⟨ms[i], List.getElem?_eq_getElem hxl⟩
      obtain ⟨hlt1, hbl⟩ := near_bits hin nk hm1
      have hm2 : H3 N = some (.lst ((natI ms).map V.int)) := fl.1 _ _ hm
      refine ⟨_, rfl, _, rfl, N, _, _, _, rfl, rfl, SqL.of hm2, at_of (j := i) (by omega) (natI_get hm1), m1, n.toNat, rfl, hlt1, by omega, fun a H4 s4 ta => ?_⟩
      rw [hbl] at ta
      refine ⟨a, rfl, ⟨_, ta.1⟩, ?_⟩
      have lys : ys.length ≤ 1000 := by
        rw [r.length, List.length_map]
        refine Nat.le_trans ?_ (tiesL_len (n := n) rows h1)
        unfold tiesL
        have e : List.range n.toNat = List.range i ++ (List.range (n.toNat - i)).map (i + ·) := by
          have := List.range_add (n := i) (m := n.toNat - i)
          rw [← this]
          congr 1
          omega
        rw [e, List.flatMap_append, List.length_append]
        omega
      let Pw : Nat → Hp → Prop := fun j H5 => ∃ zs, Fill H1 D H5 zs ∧ SqT K H5 a ((natI (nearN n rows i)).map V.int) ∧ zs.length ≤ 1000 + j ∧
        RpAll K H5 zs ((((List.range i).flatMap (tiesAt n rows)) ++ ((((nearN n rows i).take j).filter fun (y : Nat) => decide ((i : Int) < (y : Int))).map fun (y : Nat) => [(i : Int), (y : Int)])).map dTup)
      have lnn : (nearN n rows i).length ≤ 1000 := by
        unfold nearN
        exact filter_len (by rw [List.length_range]; omega)
      refine ⟨fun j m H5 => m = (nearN n rows i).length - j ∧ j ≤ (nearN n rows i).length ∧ Pw j H5, ⟨_, rfl, Nat.zero_le _, ys, ⟨fl.1.trans s4, s4 _ _ fl.2⟩, ta.1, by omega, by simpa using r.same s4⟩, ?_⟩
      rintro j mm H5 ⟨rfl, hj, zs, fz, sa, lz, rz⟩
      by_cases hjl : j < (nearN n rows i).length
      · have hjv : ((natI (nearN n rows i)).map V.int)[j]? = some (.int ((nearN n rows i)[j] : Nat)) := natI_get (List.getElem?_eq_getElem hjl)
        refine .inr ⟨⟨_, _, sa, hjv⟩, Pw (j + 1), fun H' p' => ⟨(nearN n rows i).length - (j + 1), by omega, rfl, hjl, p'⟩, fun x H6 y => ?_⟩
        obtain ⟨e6, y⟩ := y
        subst e6
        have ex := y _ sa
        rw [hjv] at ex
        have ex := (Option.some.inj ex).symm
        subst ex
        refine ⟨rfl, _, rfl, _, rfl, _, _, rfl, rfl, _, rfl, ?_⟩
        have et : (nearN n rows i).take (j + 1) = (nearN n rows i).take j ++ [(nearN n rows i)[j]] := by
          rw [List.take_succ, List.getElem?_eq_getElem hjl]
          rfl
        show if decide (((0 : Int) + (i : Nat)) < (((nearN n rows i)[j] : Nat) : Int)) = true then _ else _
        have ei : (0 : Int) + (i : Nat) = (i : Int) := by omega
        rw [ei]
        by_cases c : (i : Int) < (((nearN n rows i)[j] : Nat) : Int)
        · rw [decide_eq_true c]
          refine iteT ⟨_, rfl, _, rfl, (by show 2 ≤ sizeLine; decide), fun p hp => ?_⟩
          have sp : Same H6 (upd H6 p (.tup [V.int (i : Int), V.int (((nearN n rows i)[j] : Nat) : Int)])) := same_upd hp
          refine ⟨zs, sp _ _ fz.2, Nat.lt_of_le_of_lt lz (by have : (3000 : Nat) < sizeLine := (by decide); omega), zs ++ [.ref p], fz.push hD sp, seqT_upd (sp _ _ fz.2) (seqT sp sa), by rw [List.length_append, List.length_singleton]; omega, ?_⟩
          rw [et, List.filter_append]
          have e1 : ([(nearN n rows i)[j]].filter fun (y : Nat) => decide ((i : Int) < (y : Int))) = [(nearN n rows i)[j]] := by simp; omega
          rw [e1, List.map_append (f := fun (y : Nat) => [(i : Int), (y : Int)]), ← List.append_assoc, List.map_append (f := dTup)]
          refine RpAll.upd (sp _ _ fz.2) ?_ ((rz.same sp).app (.one ?_))
          · have := nol ((((List.range i).flatMap (tiesAt n rows)) ++ ((((nearN n rows i).take j).filter fun (y : Nat) => decide ((i : Int) < (y : Int))).map fun (y : Nat) => [(i : Int), (y : Int)])) ++ [[(i : Int), (((nearN n rows i)[j] : Nat) : Int)]])
            rw [List.map_append] at this
            exact this
          · exact TupI.rp (ns := [(i : Int), (((nearN n rows i)[j] : Nat) : Int)]) ⟨SqT.of upd_same, by show 2 ≤ 1000; decide⟩
        · rw [decide_eq_false c]
          refine iteF ⟨zs, fz, sa, by omega, ?_⟩
          rw [et, List.filter_append]
          have e1 : ([(nearN n rows i)[j]].filter fun (y : Nat) => decide ((i : Int) < (y : Int))) = [] := by simp [c]; omega
          rw [e1, List.append_nil]
          exact rz
      · have hje : j = (nearN n rows i).length := by omega
        refine .inl ⟨⟨_, sa, by rw [List.length_map, natI_length]; omega⟩, zs, fz, ?_⟩
        rw [List.range_succ, List.flatMap_append]
        rw [hje, List.take_length] at rz
        simpa [tiesAt] using rz
    · have hie : i = n.toNat := by omega
      refine .inl ⟨by show n.toNat ≤ i; omega, ?_⟩
      subst hie
      dsimp only [tNil]
      refine tupL_use (SqL.of fl.2) fun p H4 s4 hp => k _ _ ((s1.trans fl.1).trans s4) ?_
      refine .tup hp ?_ (r.same s4)
      rw [r.length, List.length_map]
      exact tiesL_len rows h1
end
end LK
namespace LK
open PySem PySem.Spec PyProof.Rows L2
/-- x leads to y if just the ties of T are turned -/
def ledB (rows : List (List Int)) (T : List (List Int)) (x y : Int) : Bool := decide (x ≠ y) && tiedB rows x y && (if x < y then !decide ([x, y] ∈ T) else decide ([y, x] ∈ T))
def LedOk (n : Int) (rows T : List (List Int)) (ms : List Nat) : Prop := ms.length = n.toNat ∧ ∀ (x m : Nat), ms[x]? = some m → ∀ y : Nat, m.testBit y = ledB rows T x y
def TiesIn (n : Int) (rows : List (List Int)) (T : List (List Int)) : Prop := (∀ t ∈ T, ∃ lo hi : Nat, t = [(lo : Int), (hi : Int)] ∧ lo < hi ∧ (hi : Int) < n ∧ tiedB rows lo hi = true) ∧ T.Nodup
theorem led_start {n : Int} {rows : List (List Int)} {ms : List Nat} (N : NearOk n rows ms) : LedOk n rows [] ((List.range n.toNat).map fun j => ms.getD j 0 / 2 ^ j * 2 ^ j) := by
  refine ⟨by rw [List.length_map, List.length_range], fun x m hm y => ?_⟩
  rw [List.getElem?_map] at hm
  have hx : x < n.toNat := by
    apply Classical.byContradiction
    intro z
    rw [List.getElem?_eq_none (by rw [List.length_range]; omega)] at hm
    cases hm
  rw [List.getElem?_range hx] at hm
  have hm : ms.getD x 0 / 2 ^ x * 2 ^ x = m := Option.some.inj hm
  subst hm
  have hg : ms[x]? = some (ms.getD x 0) := by
    rw [List.getD_eq_getElem?_getD, List.getElem?_eq_getElem (by rw [N.1]; exact hx)]
    rfl
  have hb := N.2 x _ hg y
  rw [← Nat.shiftRight_eq_div_pow, ← Nat.shiftLeft_eq, Nat.testBit_shiftLeft]
  unfold ledB
  by_cases c : x ≤ y
  · rw [Nat.testBit_shiftRight]
    have e : x + (y - x) = y := by omega
    rw [e, hb]
    by_cases c2 : x = y
    · subst c2
      simp
    · have c3 : (x : Int) < (y : Int) := by omega
      simp [c, c2, c3]
      omega
  · have c3 : ¬ (x : Int) < (y : Int) := by omega
    simp [c, c3]
theorem led_step {n : Int} {rows T : List (List Int)} {i lo hi : Nat} {ms : List Nat} {m m2 : Nat} (h : T[i]? = some [(lo : Int), (hi : Int)]) (nd : [(lo : Int), (hi : Int)] ∉ T.take i) (lt : lo < hi) (td : tiedB rows lo hi = true)
    (L : LedOk n rows (T.take i) ms) (hm : ms[lo]? = some m) (hm2 : ms[hi]? = some m2) : LedOk n rows (T.take (i + 1)) ((ms.set lo (m ^^^ 2 ^ hi)).set hi (m2 ||| 2 ^ lo)) := by
  obtain ⟨hl, hb⟩ := L
  have hlo : lo < ms.length := (List.getElem?_eq_some_iff.mp hm).1
  have hhi : hi < ms.length := (List.getElem?_eq_some_iff.mp hm2).1
  have et : T.take (i + 1) = T.take i ++ [[(lo : Int), (hi : Int)]] := by
    rw [List.take_succ, h]
    rfl
  have hne : ∀ a b : Int, ¬ (a = lo ∧ b = hi) → decide ([a, b] ∈ T.take (i + 1)) = decide ([a, b] ∈ T.take i) := by
    intro a b hab
    refine decide_eq_decide.mpr ?_
    rw [et, List.mem_append, List.mem_singleton]
    constructor
    · rintro (z | z)
      · exact z
      · simp at z
        exact absurd z hab
    · exact .inl
  have hin : [(lo : Int), (hi : Int)] ∈ T.take (i + 1) := by
    rw [et, List.mem_append]
    exact .inr (by simp)
  refine ⟨by rw [List.length_set, List.length_set]; exact hl, fun x m' hx y => ?_⟩
  by_cases e1 : x = hi
  · subst e1
    rw [List.getElem?_set_self (by rw [List.length_set]; exact hhi)] at hx
    cases hx
    rw [Nat.testBit_or, Nat.testBit_two_pow, hb x m2 hm2 y]
    unfold ledB
    by_cases e2 : lo = y
    · subst e2
      have c1 : ¬ (x : Int) < (lo : Int) := by omega
      have c2 : ¬ (x : Int) = (lo : Int) := by omega
      rw [tied_comm rows x lo, td]
      simp [c1, c2, hin]
    · rw [hne x y (by omega), hne y x (by omega)]
      simp [e2]
  · rw [List.getElem?_set_ne (fun q => e1 q.symm)] at hx
    by_cases e2 : x = lo
    · subst e2
      rw [List.getElem?_set_self hlo] at hx
      cases hx
      rw [xor_pow, hb x m hm y]
      unfold ledB
      by_cases e3 : hi = y
      · subst e3
        have c1 : (x : Int) < (hi : Int) := by omega
        have c2 : ¬ (x : Int) = (hi : Int) := by omega
        rw [td]
        simp [c1, c2, hin, nd]
      · rw [hne x y (by omega), hne y x (by omega)]
        simp [e3]
    · rw [List.getElem?_set_ne (fun q => e2 q.symm)] at hx
      rw [hb x m' hx y]
      unfold ledB
      rw [hne x y (by omega), hne y x (by omega)]
def spLead (K : PySem.W.Frag) : Sp := fun vs H Q _ => ∃ v u n rows T, vs = [v, u] ∧ Rp K H v (bookD n rows) ∧ Rp K H u (.tuple (T.map dTup)) ∧ RowsIn n rows ∧ 0 ≤ n ∧ n ≤ 45 ∧ TiesIn n rows T ∧ ∀ p ms H', Same H H' → H p = none → H' p = some (.lst ((natI ms).map V.int)) → LedOk n rows T ms → Q (.ref p) H'
theorem nodup_take {T : List (List Int)} (nd : T.Nodup) {i : Nat} {t : List Int} (h : T[i]? = some t) : t ∉ T.take i := by
  have hl := (List.getElem?_eq_some_iff.mp h).1
  have e : T = T.take i ++ t :: T.drop (i + 1) := by
    have e1 : T.drop i = t :: T.drop (i + 1) := by
      rw [List.drop_eq_getElem_cons hl, (List.getElem?_eq_some_iff.mp h).2]
    rw [← e1, List.take_append_drop]
  rw [e] at nd
  have := List.nodup_append.mp nd
  intro hm
  exact this.2.2 _ hm _ (by simp) rfl
theorem shrshl (m x : Nat) : (m : Int) / 2 ^ ((x : Int)).toNat * 2 ^ ((x : Int)).toNat = ((m / 2 ^ x * 2 ^ x : Nat) : Int) := by
  have e : ((x : Int)).toNat = x := by omega
  rw [e]
  norm_cast
section
variable {P : Program} {w : World} {K : PySem.W.Frag} {mg : Str → Option Value} {base : Heap} {ad : Nat → Addr} {fd : Nat → FuncData}
theorem ok_leading_masks (T : Txt K mg ad fd) : FnOk P w K mg base CX0 3 (ad 31) (fd 31) ["book", "ties"] (spLead K) := by
  refine T.F_leading_masks.ok sc_leading_masks (fun vs H Q E h => ?_) (fun cdv A outer s H vs Q E hr h => ?_)
  · obtain ⟨v, u, n, rows, TT, rfl, _⟩ := h
    rfl
  · obtain ⟨v, u, n, rows, TT, rfl, h, hu, hin, h0, h1, hT, k⟩ := h
    have hbk := h
    obtain ⟨b, L, xs, rfl, hb, hL, hz, hr2⟩ := rp_book h
    refine ⟨_, (pss_cons (ps_set (i := 2) sc_leading_masks.nd rfl (Or.inr rfl) (pe_call (ok_near_masks T) (hr.mono (by decide)) rfl T.m_near_masks T.F_near_masks.kp (b_near_masks T) .nil pass0 (pa_cons (pv 0) pa_nil)))
  (pss_cons (ps_setLc (i := 3) (own := [("thing", 6)]) (g := gName 6) rfl sc_leading_masks.nd rfl rfl (sw_true rfl rfl rfl (by decide +kernel)) (pi_range1 rfl T.g_range (pa_cons (pe_ix (ixT K) (pv 0) pe_int (fun _ _ => rfl)) pa_nil)) (blkOk_by (N := ["book", "ties", "near", "out", "low", "high", "thing"]) (sc := defScope s_leading_masks) (by decide +kernel)) (fun _ _ _ _ _ => (pg_name (i := 6) (x := "thing") sc_leading_masks.nd rfl (Or.inl rfl))) (fun _ _ _ _ _ => pts_nil) (fun _ _ _ _ _ => (pe_op op_shl (pe_op op_shr (pe_ix (ixL K) (pv 2) (pv 6) (fun _ _ => rfl)) (pv 6)) (pv 6))))
  (pss_cons (ps_for PassesOwn.never rfl (piT K (pv 1)) (pg_tup rfl (pgs_cons (pg_name (i := 4) (x := "low") sc_leading_masks.nd rfl (Or.inl rfl)) (pgs_cons (pg_name (i := 5) (x := "high") sc_leading_masks.nd rfl (Or.inl rfl)) pgs_nil)))
  (pss_cons (ps_asg (pe_op op_xor (pe_ix (ixL K) (pv 3) (pv 4) (fun _ _ => rfl)) (pe_op op_shl pe_int (pv 5))) (pg_sub (pv 3) (pv 4) set_list))
  (pss_one (ps_asg (pe_op op_or (pe_ix (ixL K) (pv 3) (pv 5) (fun _ _ => rfl)) (pe_op op_shl pe_int (pv 4))) (pg_sub (pv 3) (pv 5) set_list)))))
  (pss_one (ps_ret (pv 3)))))), ?_⟩
    refine ⟨_, rfl, _, n, rows, rfl, hbk, hin, h0, by omega, fun N ms H1 s1 hN hm nk => ?_⟩
    refine ⟨_, rfl, _, _, _, _, rfl, rfl, seqT s1 hb, rfl, n, rfl, by omega, by omega, fun D hD => ?_⟩
    have hND : H1 N ≠ none := by rw [hm]; intro z; cases z
    refine lcR (K := K) (lo := 0) (n := n.toNat) (fun _ => true) (fun j => .int ((ms.getD j 0 / 2 ^ j * 2 ^ j : Nat) : Int)) hD (by omega) (fun _ _ _ => rfl) (fun i H2 hi s2 Q1 Q2 k1 k2 => ?_) (fun ys H2 s2 hy r2 => ?_)
    · have hg : ms[i]? = some (ms.getD i 0) := by
        rw [List.getD_eq_getElem?_getD, List.getElem?_eq_getElem (by rw [nk.1]; exact hi)]
        rfl
      have hN2 := s2 _ _ hm
      have e0 : (0 : Int) + (i : Nat) = (i : Int) := by omega
      rw [e0]
      refine ⟨rfl, ?_⟩
      refine ⟨_, rfl, _, rfl, N, _, _, _, rfl, rfl, SqL.of hN2, atI_nat (natI_get hg), _, rfl, _, _, rfl, rfl, (by show (0 : Int) ≤ _; omega), _, rfl, _, _, rfl, rfl, ⟨by omega, by omega, ?_⟩, ?_⟩
      · have hlt : ms.getD i 0 < 2 ^ n.toNat := (near_bits hin nk hg).1
        have h45 : 2 ^ n.toNat ≤ 2 ^ 45 := Nat.pow_le_pow_right (by decide) (by omega)
        have ei : ((i : Int)).toNat = i := by omega
        have ed : ((ms.getD i 0 : Nat) : Int) / 2 ^ ((i : Int)).toNat = ((ms.getD i 0 / 2 ^ i : Nat) : Int) := by rw [ei]; norm_cast
        show (((ms.getD i 0 : Nat) : Int) / 2 ^ ((i : Int)).toNat).natAbs < 2 ^ 64
        rw [ed, Int.natAbs_natCast]
        have h5 : ms.getD i 0 / 2 ^ i ≤ ms.getD i 0 := Nat.div_le_self _ _
        have h6 : (2 : Nat) ^ 45 < 2 ^ 64 := by decide
        omega
      · show Q1 (.int (((ms.getD i 0 : Nat) : Int) / 2 ^ ((i : Int)).toNat * 2 ^ ((i : Int)).toNat)) H2
        rw [shrshl]
        exact k1 rfl _ _ (Same.refl _) (.int _)
    · rw [filter_true] at r2
      have hz2 := RpAll.ofInts (ns := natI ((List.range n.toNat).map fun j => ms.getD j 0 / 2 ^ j * 2 ^ j)) (by unfold natI; rw [List.map_map, List.map_map]; exact r2)
      subst hz2
      have hDn : H D = none := s1.free hD
      cases hu with
      | @tup t ts _ st lt rt =>
        have lts : ts.length = TT.length := by rw [rt.length, List.length_map]
        have hND : D ≠ N := fun z => by rw [z, hm] at hD; cases hD
        refine ⟨_, rfl, t, rfl, ⟨_, seqT (s1.trans s2) st⟩, for_tup (K := K) (a := t) (xs := ts)
          (fun i σ H3 => ∃ (ms : List Nat) (v4 v5 v6 : Option V), σ = [some (.ref b), some (.ref t), some (.ref N), some (.ref D), v4, v5, v6] ∧ Same H H3 ∧ H3 D = some (.lst ((natI ms).map V.int)) ∧ LedOk n rows (TT.take i) ms)
          ⟨_, none, none, none, rfl, s1.trans s2, hy, led_start nk⟩ (fun i σ H3 _ ⟨_, _, _, _, _, s3, _⟩ => seqT s3 st) (fun i x σ H3 hi ⟨ms2, v4, v5, v6, e1, s3, hm3, lk⟩ => ?_) (fun σ H3 ⟨ms2, v4, v5, v6, e1, s3, hm3, lk⟩ => ?_)⟩
        · subst e1
          obtain ⟨r, a, hrow, rfl, ta⟩ := rt.row hi
          have ta := ta.same s3
          obtain ⟨lo, hi2, er, hlt, hhn, htd⟩ := hT.1 r (List.mem_of_getElem? hrow)
          subst er
          have hl2 : ms2.length = n.toNat := lk.1
          obtain ⟨m, hm1⟩ : ∃ m, ms2[lo]? = some m := ⟨ms2[lo]'(by omega), List.getElem?_eq_getElem _⟩
          obtain ⟨m2, hm2⟩ : ∃ m, ms2[hi2]? = some m := ⟨ms2[hi2]'(by omega), List.getElem?_eq_getElem _⟩
          refine ⟨a, _, rfl, ta.1, rfl, _, _, rfl, _, _, rfl, rfl, ?_⟩
          refine ⟨_, rfl, _, rfl, D, _, _, _, rfl, rfl, SqL.of hm3, atI_nat (natI_get hm1), _, rfl, 1, (hi2 : Int), rfl, rfl, ⟨by omega, by omega, by decide⟩, _, _, rfl, rfl, _, rfl, _, rfl, D, _, (lo : Int), lo, rfl, rfl, hm3, ixN_nat (by rw [List.length_map, natI_length]; omega), ?_⟩
          have ez : Builtin.bitXor (m : Int) (1 * 2 ^ ((hi2 : Int)).toNat) = ((m ^^^ 2 ^ hi2 : Nat) : Int) := by
            rw [shl1 (by omega), xor_nat]
            rfl
          have hm4 : (ms2.set lo (m ^^^ 2 ^ hi2))[hi2]? = some m2 := by rw [List.getElem?_set_ne (by omega)]; exact hm2
          have hD4 : ∀ H4 : Hp, H4 = upd H3 D (.lst (((natI ms2).map V.int).set lo (.int (Builtin.bitXor (m : Int) (1 * 2 ^ ((hi2 : Int)).toNat))))) → H4 D = some (.lst ((natI (ms2.set lo (m ^^^ 2 ^ hi2))).map V.int)) := by
            rintro H4 rfl
            rw [upd_same, ez, natI_set]
          have hD5 := hD4 _ rfl
          refine ⟨_, rfl, _, rfl, D, _, _, _, rfl, rfl, SqL.of hD5, atI_nat (natI_get hm4), _, rfl, 1, (lo : Int), rfl, rfl, ⟨by omega, by omega, by decide⟩, _, _, rfl, rfl, _, rfl, _, rfl, D, _, (hi2 : Int), hi2, rfl, rfl, hD5, ixN_nat (by rw [List.length_map, natI_length, List.length_set]; omega), ?_⟩
          have ez2 : Builtin.bitOr (m2 : Int) (1 * 2 ^ ((lo : Int)).toNat) = ((m2 ||| 2 ^ lo : Nat) : Int) := by
            rw [shl1 (by omega), or_nat]
            rfl
          refine ⟨_, _, _, _, rfl, same_upd2 hDn (same_upd2 hDn s3), ?_, led_step hrow (nodup_take hT.2 hrow) hlt htd lk hm1 hm2⟩
          rw [upd_same]
          show some (HO.lst (((natI (ms2.set lo (m ^^^ 2 ^ hi2))).map V.int).set hi2 (.int (Builtin.bitOr (m2 : Int) (1 * 2 ^ ((lo : Int)).toNat))))) = _
          rw [ez2, natI_set]
        · subst e1
          rw [lts, List.take_length] at lk
          exact ⟨_, rfl, k D ms2 H3 s3 hDn hm3 lk⟩
end
end LK
/-! comprehensions whose elements may hold lists -/
namespace LK
open PySem PySem.Spec PyProof.Rows L2
/-- at D the values so far, all else stands -/
def FillH (K : PySem.W.Frag) (H : Hp) (D : Addr) (H' : Hp) (xs : List V) (ds : List PyData) : Prop := Fill H D H' xs ∧ RpAll K (hide D H') xs ds
theorem fillH_start {K : PySem.W.Frag} {H : Hp} {D : Addr} (n : H D = none) : FillH K H D (upd H D (.lst [])) [] [] := ⟨Fill.start n, .nil⟩
theorem fillH_push {K : PySem.W.Frag} {H H1 H2 : Hp} {D : Addr} {xs : List V} {ds : List PyData} {y : V} {d : PyData} (n : H D = none) (f : FillH K H D H1 xs ds) (s : Same H1 H2) (r : Rp K (hide D H2) y d) : FillH K H D (upd H2 D (.lst (xs ++ [y]))) (xs ++ [y]) (ds ++ [d]) :=
  ⟨f.1.push n s, by rw [hide_upd_self]; exact (f.2.same (hide_mono s)).app (.cons r .nil)⟩
theorem fillH_same {K : PySem.W.Frag} {H H1 H2 : Hp} {D : Addr} {xs : List V} {ds : List PyData} (f : FillH K H D H1 xs ds) (s : Same H1 H2) : FillH K H D H2 xs ds := ⟨⟨f.1.1.trans s, s _ _ f.1.2⟩, f.2.same (hide_mono s)⟩
/-- what stood ahead is not at D -/
theorem old_hide {H H' : Hp} {D : Addr} (n : H D = none) (s : Same H H') : Same H (hide D H') := fun b u e => by
  rw [hide_ne (ne_of_none e n)]
  exact s _ _ e
theorem lcLH {K : PySem.W.Frag} {a : Addr} {xs : List V} {g : TG} {tt : TT} {te : TE} {vs : List Nat} {σ : L2.St} {H : Hp} {D : Addr} {Qd : Hp → Prop} (p : Nat → Bool) (f : Nat → PyData) (hD : H D = none) (hx : SqL K H a xs) (hz : xs.length ≤ 1000)
    (hs : ∀ (i : Nat) (x : V) (H1 : Hp), xs[i]? = some x → Same H H1 → (∃ ys, H1 D = some (.lst ys)) → ∀ (Q : VK) (Q' : Hp → Prop), (p i = true → ∀ y H2, Same H1 H2 → Rp K (hide D H2) y (f i) → Q y H2) → (p i = false → ∀ H2, Same H1 H2 → Q' H2) →
      g x (wipe σ vs) H1 fun σ2 H2 => wipe σ2 vs = wipe σ vs ∧ tt σ2 H2 fun b H3 => if b = true then te σ2 H3 Q else Q' H3)
    (hd : ∀ ys H1, Same H H1 → H1 D = some (.lst ys) → ys.length ≤ xs.length → RpAll K (hide D H1) ys (((List.range xs.length).filter p).map f) → Qd H1) :
    ∃ W : Nat → Nat → Hp → Prop, (∃ m, W 0 m (upd H D (.lst []))) ∧ ∀ i m H, W i m H →
      ((Itl K a).stop i H ∧ Qd H) ∨ ((Itl K a).go i H ∧ ∃ Nx : Hp → Prop, (∀ H', Nx H' → ∃ m', m' < m ∧ W (i + 1) m' H') ∧ ∀ x H', (Itl K a).yld i H x H' → g x (wipe σ vs) H' fun σ2 H2 => wipe σ2 vs = wipe σ vs ∧ tt σ2 H2 fun b H3 =>
        if b = true then te σ2 H3 fun y H4 => ∃ acc, H4 D = some (.lst acc) ∧ acc.length < sizeLine ∧ Nx (upd H4 D (.lst (acc ++ [y]))) else Nx H3) := by
  refine lc_list (fun i H1 => ∃ ys, FillH K H D H1 ys (((List.range i).filter p).map f) ∧ ys.length ≤ i) ⟨[], fillH_start hD, Nat.le_refl _⟩ (fun i H1 _ ⟨ys, fl, _⟩ => fl.1.1.seq hx)
    (fun i x H1 hi ⟨ys, fl, hy⟩ => ?_) (fun H1 ⟨ys, fl, hy⟩ => hd ys H1 fl.1.1 fl.1.2 hy fl.2)
  have hlt : i < xs.length := (List.getElem?_eq_some_iff.mp hi).1
  refine hs i x H1 hi fl.1.1 ⟨ys, fl.1.2⟩ _ _ (fun hp y H2 s2 ry => ⟨ys, fl.1.at s2, small1000 (by omega), ys ++ [y], ?_, by rw [List.length_append, List.length_singleton]; omega⟩) (fun hp H2 s2 => ⟨ys, ?_, by omega⟩)
  · rw [List.range_succ, List.filter_append, List.map_append]
    have e1 : ([i].filter p) = [i] := by simp [hp]
    rw [e1]
    exact fillH_push hD fl s2 ry
  · rw [List.range_succ, List.filter_append]
    have e1 : ([i].filter p) = [] := by simp [hp]
    rw [e1, List.append_nil]
    exact fillH_same fl s2
theorem lcTH {K : PySem.W.Frag} {a : Addr} {xs : List V} {g : TG} {tt : TT} {te : TE} {vs : List Nat} {σ : L2.St} {H : Hp} {D : Addr} {Qd : Hp → Prop} (p : Nat → Bool) (f : Nat → PyData) (hD : H D = none) (hx : SqT K H a xs) (hz : xs.length ≤ 1000)
    (hs : ∀ (i : Nat) (x : V) (H1 : Hp), xs[i]? = some x → Same H H1 → (∃ ys, H1 D = some (.lst ys)) → ∀ (Q : VK) (Q' : Hp → Prop), (p i = true → ∀ y H2, Same H1 H2 → Rp K (hide D H2) y (f i) → Q y H2) → (p i = false → ∀ H2, Same H1 H2 → Q' H2) →
      g x (wipe σ vs) H1 fun σ2 H2 => wipe σ2 vs = wipe σ vs ∧ tt σ2 H2 fun b H3 => if b = true then te σ2 H3 Q else Q' H3)
    (hd : ∀ ys H1, Same H H1 → H1 D = some (.lst ys) → ys.length ≤ xs.length → RpAll K (hide D H1) ys (((List.range xs.length).filter p).map f) → Qd H1) :
    ∃ W : Nat → Nat → Hp → Prop, (∃ m, W 0 m (upd H D (.lst []))) ∧ ∀ i m H, W i m H →
      ((Itt K a).stop i H ∧ Qd H) ∨ ((Itt K a).go i H ∧ ∃ Nx : Hp → Prop, (∀ H', Nx H' → ∃ m', m' < m ∧ W (i + 1) m' H') ∧ ∀ x H', (Itt K a).yld i H x H' → g x (wipe σ vs) H' fun σ2 H2 => wipe σ2 vs = wipe σ vs ∧ tt σ2 H2 fun b H3 =>
        if b = true then te σ2 H3 fun y H4 => ∃ acc, H4 D = some (.lst acc) ∧ acc.length < sizeLine ∧ Nx (upd H4 D (.lst (acc ++ [y]))) else Nx H3) := by
  refine lc_tup (fun i H1 => ∃ ys, FillH K H D H1 ys (((List.range i).filter p).map f) ∧ ys.length ≤ i) ⟨[], fillH_start hD, Nat.le_refl _⟩ (fun i H1 _ ⟨ys, fl, _⟩ => seqT fl.1.1 hx)
    (fun i x H1 hi ⟨ys, fl, hy⟩ => ?_) (fun H1 ⟨ys, fl, hy⟩ => hd ys H1 fl.1.1 fl.1.2 hy fl.2)
  have hlt : i < xs.length := (List.getElem?_eq_some_iff.mp hi).1
  refine hs i x H1 hi fl.1.1 ⟨ys, fl.1.2⟩ _ _ (fun hp y H2 s2 ry => ⟨ys, fl.1.at s2, small1000 (by omega), ys ++ [y], ?_, by rw [List.length_append, List.length_singleton]; omega⟩) (fun hp H2 s2 => ⟨ys, ?_, by omega⟩)
  · rw [List.range_succ, List.filter_append, List.map_append]
    have e1 : ([i].filter p) = [i] := by simp [hp]
    rw [e1]
    exact fillH_push hD fl s2 ry
  · rw [List.range_succ, List.filter_append]
    have e1 : ([i].filter p) = [] := by simp [hp]
    rw [e1, List.append_nil]
    exact fillH_same fl s2
theorem lcRH {K : PySem.W.Frag} {lo : Int} {n : Nat} {g : TG} {tt : TT} {te : TE} {vs : List Nat} {σ : L2.St} {H : Hp} {D : Addr} {Qd : Hp → Prop} (p : Nat → Bool) (f : Nat → PyData) (hD : H D = none) (hz : n ≤ 1000)
    (hs : ∀ (i : Nat)  (H1 : Hp), i < n → Same H H1 → (∃ ys, H1 D = some (.lst ys)) → ∀ (Q : VK) (Q' : Hp → Prop), (p i = true → ∀ y H2, Same H1 H2 → Rp K (hide D H2) y (f i) → Q y H2) → (p i = false → ∀ H2, Same H1 H2 → Q' H2) →
      g (.int (lo + i)) (wipe σ vs) H1 fun σ2 H2 => wipe σ2 vs = wipe σ vs ∧ tt σ2 H2 fun b H3 => if b = true then te σ2 H3 Q else Q' H3)
    (hd : ∀ ys H1, Same H H1 → H1 D = some (.lst ys) → ys.length ≤ n → RpAll K (hide D H1) ys (((List.range n).filter p).map f) → Qd H1) :
    ∃ W : Nat → Nat → Hp → Prop, (∃ m, W 0 m (upd H D (.lst []))) ∧ ∀ i m H, W i m H →
      ((Itr lo n).stop i H ∧ Qd H) ∨ ((Itr lo n).go i H ∧ ∃ Nx : Hp → Prop, (∀ H', Nx H' → ∃ m', m' < m ∧ W (i + 1) m' H') ∧ ∀ x H', (Itr lo n).yld i H x H' → g x (wipe σ vs) H' fun σ2 H2 => wipe σ2 vs = wipe σ vs ∧ tt σ2 H2 fun b H3 =>
        if b = true then te σ2 H3 fun y H4 => ∃ acc, H4 D = some (.lst acc) ∧ acc.length < sizeLine ∧ Nx (upd H4 D (.lst (acc ++ [y]))) else Nx H3) := by
  refine lc_range (fun i H1 => ∃ ys, FillH K H D H1 ys (((List.range i).filter p).map f) ∧ ys.length ≤ i) ⟨[], fillH_start hD, Nat.le_refl _⟩ 
    (fun i  H1 hi ⟨ys, fl, hy⟩ => ?_) (fun H1 ⟨ys, fl, hy⟩ => hd ys H1 fl.1.1 fl.1.2 hy fl.2)
  have hlt : i < n := hi
  refine hs i  H1 hi fl.1.1 ⟨ys, fl.1.2⟩ _ _ (fun hp y H2 s2 ry => ⟨ys, fl.1.at s2, small1000 (by omega), ys ++ [y], ?_, by rw [List.length_append, List.length_singleton]; omega⟩) (fun hp H2 s2 => ⟨ys, ?_, by omega⟩)
  · rw [List.range_succ, List.filter_append, List.map_append]
    have e1 : ([i].filter p) = [i] := by simp [hp]
    rw [e1]
    exact fillH_push hD fl s2 ry
  · rw [List.range_succ, List.filter_append]
    have e1 : ([i].filter p) = [] := by simp [hp]
    rw [e1, List.append_nil]
    exact fillH_same fl s2
/-- elements that stood ahead -/
theorem lcLV {K : PySem.W.Frag} {a : Addr} {xs : List V} {g : TG} {tt : TT} {te : TE} {vs : List Nat} {σ : L2.St} {H : Hp} {D : Addr} {Qd : Hp → Prop} (p : Nat → Bool) (f : Nat → V) (hD : H D = none) (hx : SqL K H a xs) (hz : xs.length ≤ 1000)
    (hs : ∀ (i : Nat) (x : V) (H1 : Hp), xs[i]? = some x → Same H H1 → ∀ (Q : VK) (Q' : Hp → Prop), (p i = true → ∀ H2, Same H1 H2 → Q (f i) H2) → (p i = false → ∀ H2, Same H1 H2 → Q' H2) →
      g x (wipe σ vs) H1 fun σ2 H2 => wipe σ2 vs = wipe σ vs ∧ tt σ2 H2 fun b H3 => if b = true then te σ2 H3 Q else Q' H3)
    (hd : ∀ H1, Same H H1 → H1 D = some (.lst (((List.range xs.length).filter p).map f)) → Qd H1) :
    ∃ W : Nat → Nat → Hp → Prop, (∃ m, W 0 m (upd H D (.lst []))) ∧ ∀ i m H, W i m H →
      ((Itl K a).stop i H ∧ Qd H) ∨ ((Itl K a).go i H ∧ ∃ Nx : Hp → Prop, (∀ H', Nx H' → ∃ m', m' < m ∧ W (i + 1) m' H') ∧ ∀ x H', (Itl K a).yld i H x H' → g x (wipe σ vs) H' fun σ2 H2 => wipe σ2 vs = wipe σ vs ∧ tt σ2 H2 fun b H3 =>
        if b = true then te σ2 H3 fun y H4 => ∃ acc, H4 D = some (.lst acc) ∧ acc.length < sizeLine ∧ Nx (upd H4 D (.lst (acc ++ [y]))) else Nx H3) := by
  refine lc_list (fun i H1 => Fill H D H1 (((List.range i).filter p).map f)) (Fill.start hD) (fun i H1 _ fl => fl.1.seq hx)
    (fun i x H1 hi fl => ?_) (fun H1 fl => hd H1 fl.1 fl.2)
  have hlt : i < xs.length := (List.getElem?_eq_some_iff.mp hi).1
  have hle : (((List.range i).filter p).map f).length ≤ i := by
    rw [List.length_map]
    exact Nat.le_trans (List.length_filter_le _ _) (by rw [List.length_range]; exact Nat.le_refl _)
  refine hs i x H1 hi fl.1 _ _ (fun hp H2 s2 => ⟨_, fl.at s2, small1000 (by omega), ?_⟩) (fun hp H2 s2 => ?_)
  · rw [List.range_succ, List.filter_append, List.map_append]
    have e1 : ([i].filter p) = [i] := by simp [hp]
    rw [e1]
    exact fl.push hD s2
  · rw [List.range_succ, List.filter_append]
    have e1 : ([i].filter p) = [] := by simp [hp]
    rw [e1, List.append_nil]
    exact ⟨fl.1.trans s2, s2 _ _ fl.2⟩
/-- what is chosen from data is data -/
theorem RpAll.pick {K : PySem.W.Frag} {H : Hp} {xs : List V} {ds : List PyData} (r : RpAll K H xs ds) (p : Nat → Bool) : ∀ (l : List Nat), (∀ j ∈ l, j < xs.length) → RpAll K H (l.map fun j => xs.getD j .non) (l.map fun j => ds.getD j .none)
  | [], _ => .nil
  | j :: l, h => by
    have hj := h j (by simp)
    obtain ⟨d, hd, rd⟩ := r.get (List.getElem?_eq_getElem hj)
    refine .cons ?_ (RpAll.pick r p l fun i hi => h i (by simp [hi]))
    show Rp K H (xs.getD j .non) (ds.getD j .none)
    rw [List.getD_eq_getElem?_getD, List.getD_eq_getElem?_getD, List.getElem?_eq_getElem hj, hd]
    exact rd
end LK
/-! comprehensions whose elements may hold lists, while the state at S is hidden -/
namespace LK
open PySem PySem.Spec PyProof.Rows L2
theorem hide2_self {S D : Addr} {H : Hp} {o : HO} : hide D (hide S (upd H D o)) = hide D (hide S H) := by
  by_cases e : D = S
  · subst e
    rw [hide_upd_self]
  · rw [hide_upd e, hide_upd_self]
/-- at D the values so far, all else stands -/
def FillS (K : PySem.W.Frag) (S : Addr) (H : Hp) (D : Addr) (H' : Hp) (xs : List V) (ds : List PyData) : Prop := Fill H D H' xs ∧ RpAll K (hide D (hide S H')) xs ds
theorem fillS_start {K : PySem.W.Frag} {S : Addr} {H : Hp} {D : Addr} (n : H D = none) : FillS K S H D (upd H D (.lst [])) [] [] := ⟨Fill.start n, .nil⟩
theorem fillS_push {K : PySem.W.Frag} {S : Addr} {H H1 H2 : Hp} {D : Addr} {xs : List V} {ds : List PyData} {y : V} {d : PyData} (n : H D = none) (f : FillS K S H D H1 xs ds) (s : Same H1 H2) (r : Rp K (hide D (hide S H2)) y d) : FillS K S H D (upd H2 D (.lst (xs ++ [y]))) (xs ++ [y]) (ds ++ [d]) :=
  ⟨f.1.push n s, by rw [hide2_self]; exact (f.2.same (hide_mono (hide_mono s))).app (.cons r .nil)⟩
theorem fillS_same {K : PySem.W.Frag} {S : Addr} {H H1 H2 : Hp} {D : Addr} {xs : List V} {ds : List PyData} (f : FillS K S H D H1 xs ds) (s : Same H1 H2) : FillS K S H D H2 xs ds := ⟨⟨f.1.1.trans s, s _ _ f.1.2⟩, f.2.same (hide_mono (hide_mono s))⟩
theorem lcLS {K : PySem.W.Frag} (S : Addr) {a : Addr} {xs : List V} {g : TG} {tt : TT} {te : TE} {vs : List Nat} {σ : L2.St} {H : Hp} {D : Addr} {Qd : Hp → Prop} (p : Nat → Bool) (f : Nat → PyData) (hD : H D = none) (hx : SqL K H a xs) (hz : xs.length ≤ 1000)
    (hs : ∀ (i : Nat) (x : V) (H1 : Hp), xs[i]? = some x → Same H H1 → (∃ ys, H1 D = some (.lst ys)) → ∀ (Q : VK) (Q' : Hp → Prop), (p i = true → ∀ y H2, Same H1 H2 → Rp K (hide D (hide S H2)) y (f i) → Q y H2) → (p i = false → ∀ H2, Same H1 H2 → Q' H2) →
      g x (wipe σ vs) H1 fun σ2 H2 => wipe σ2 vs = wipe σ vs ∧ tt σ2 H2 fun b H3 => if b = true then te σ2 H3 Q else Q' H3)
    (hd : ∀ ys H1, Same H H1 → H1 D = some (.lst ys) → ys.length ≤ xs.length → RpAll K (hide D (hide S H1)) ys (((List.range xs.length).filter p).map f) → Qd H1) :
    ∃ W : Nat → Nat → Hp → Prop, (∃ m, W 0 m (upd H D (.lst []))) ∧ ∀ i m H, W i m H →
      ((Itl K a).stop i H ∧ Qd H) ∨ ((Itl K a).go i H ∧ ∃ Nx : Hp → Prop, (∀ H', Nx H' → ∃ m', m' < m ∧ W (i + 1) m' H') ∧ ∀ x H', (Itl K a).yld i H x H' → g x (wipe σ vs) H' fun σ2 H2 => wipe σ2 vs = wipe σ vs ∧ tt σ2 H2 fun b H3 =>
        if b = true then te σ2 H3 fun y H4 => ∃ acc, H4 D = some (.lst acc) ∧ acc.length < sizeLine ∧ Nx (upd H4 D (.lst (acc ++ [y]))) else Nx H3) := by
  refine lc_list (fun i H1 => ∃ ys, FillS K S H D H1 ys (((List.range i).filter p).map f) ∧ ys.length ≤ i) ⟨[], fillS_start hD, Nat.le_refl _⟩ (fun i H1 _ ⟨ys, fl, _⟩ => fl.1.1.seq hx)
    (fun i x H1 hi ⟨ys, fl, hy⟩ => ?_) (fun H1 ⟨ys, fl, hy⟩ => hd ys H1 fl.1.1 fl.1.2 hy fl.2)
  have hlt : i < xs.length := (List.getElem?_eq_some_iff.mp hi).1
  refine hs i x H1 hi fl.1.1 ⟨ys, fl.1.2⟩ _ _ (fun hp y H2 s2 ry => ⟨ys, fl.1.at s2, small1000 (by omega), ys ++ [y], ?_, by rw [List.length_append, List.length_singleton]; omega⟩) (fun hp H2 s2 => ⟨ys, ?_, by omega⟩)
  · rw [List.range_succ, List.filter_append, List.map_append]
    have e1 : ([i].filter p) = [i] := by simp [hp]
    rw [e1]
    exact fillS_push hD fl s2 ry
  · rw [List.range_succ, List.filter_append]
    have e1 : ([i].filter p) = [] := by simp [hp]
    rw [e1, List.append_nil]
    exact fillS_same fl s2
theorem lcTS {K : PySem.W.Frag} (S : Addr) {a : Addr} {xs : List V} {g : TG} {tt : TT} {te : TE} {vs : List Nat} {σ : L2.St} {H : Hp} {D : Addr} {Qd : Hp → Prop} (p : Nat → Bool) (f : Nat → PyData) (hD : H D = none) (hx : SqT K H a xs) (hz : xs.length ≤ 1000)
    (hs : ∀ (i : Nat) (x : V) (H1 : Hp), xs[i]? = some x → Same H H1 → (∃ ys, H1 D = some (.lst ys)) → ∀ (Q : VK) (Q' : Hp → Prop), (p i = true → ∀ y H2, Same H1 H2 → Rp K (hide D (hide S H2)) y (f i) → Q y H2) → (p i = false → ∀ H2, Same H1 H2 → Q' H2) →
      g x (wipe σ vs) H1 fun σ2 H2 => wipe σ2 vs = wipe σ vs ∧ tt σ2 H2 fun b H3 => if b = true then te σ2 H3 Q else Q' H3)
    (hd : ∀ ys H1, Same H H1 → H1 D = some (.lst ys) → ys.length ≤ xs.length → RpAll K (hide D (hide S H1)) ys (((List.range xs.length).filter p).map f) → Qd H1) :
    ∃ W : Nat → Nat → Hp → Prop, (∃ m, W 0 m (upd H D (.lst []))) ∧ ∀ i m H, W i m H →
      ((Itt K a).stop i H ∧ Qd H) ∨ ((Itt K a).go i H ∧ ∃ Nx : Hp → Prop, (∀ H', Nx H' → ∃ m', m' < m ∧ W (i + 1) m' H') ∧ ∀ x H', (Itt K a).yld i H x H' → g x (wipe σ vs) H' fun σ2 H2 => wipe σ2 vs = wipe σ vs ∧ tt σ2 H2 fun b H3 =>
        if b = true then te σ2 H3 fun y H4 => ∃ acc, H4 D = some (.lst acc) ∧ acc.length < sizeLine ∧ Nx (upd H4 D (.lst (acc ++ [y]))) else Nx H3) := by
  refine lc_tup (fun i H1 => ∃ ys, FillS K S H D H1 ys (((List.range i).filter p).map f) ∧ ys.length ≤ i) ⟨[], fillS_start hD, Nat.le_refl _⟩ (fun i H1 _ ⟨ys, fl, _⟩ => seqT fl.1.1 hx)
    (fun i x H1 hi ⟨ys, fl, hy⟩ => ?_) (fun H1 ⟨ys, fl, hy⟩ => hd ys H1 fl.1.1 fl.1.2 hy fl.2)
  have hlt : i < xs.length := (List.getElem?_eq_some_iff.mp hi).1
  refine hs i x H1 hi fl.1.1 ⟨ys, fl.1.2⟩ _ _ (fun hp y H2 s2 ry => ⟨ys, fl.1.at s2, small1000 (by omega), ys ++ [y], ?_, by rw [List.length_append, List.length_singleton]; omega⟩) (fun hp H2 s2 => ⟨ys, ?_, by omega⟩)
  · rw [List.range_succ, List.filter_append, List.map_append]
    have e1 : ([i].filter p) = [i] := by simp [hp]
    rw [e1]
    exact fillS_push hD fl s2 ry
  · rw [List.range_succ, List.filter_append]
    have e1 : ([i].filter p) = [] := by simp [hp]
    rw [e1, List.append_nil]
    exact fillS_same fl s2
theorem lcRS {K : PySem.W.Frag} (S : Addr) {lo : Int} {n : Nat} {g : TG} {tt : TT} {te : TE} {vs : List Nat} {σ : L2.St} {H : Hp} {D : Addr} {Qd : Hp → Prop} (p : Nat → Bool) (f : Nat → PyData) (hD : H D = none) (hz : n ≤ 1000)
    (hs : ∀ (i : Nat)  (H1 : Hp), i < n → Same H H1 → (∃ ys, H1 D = some (.lst ys)) → ∀ (Q : VK) (Q' : Hp → Prop), (p i = true → ∀ y H2, Same H1 H2 → Rp K (hide D (hide S H2)) y (f i) → Q y H2) → (p i = false → ∀ H2, Same H1 H2 → Q' H2) →
      g (.int (lo + i)) (wipe σ vs) H1 fun σ2 H2 => wipe σ2 vs = wipe σ vs ∧ tt σ2 H2 fun b H3 => if b = true then te σ2 H3 Q else Q' H3)
    (hd : ∀ ys H1, Same H H1 → H1 D = some (.lst ys) → ys.length ≤ n → RpAll K (hide D (hide S H1)) ys (((List.range n).filter p).map f) → Qd H1) :
    ∃ W : Nat → Nat → Hp → Prop, (∃ m, W 0 m (upd H D (.lst []))) ∧ ∀ i m H, W i m H →
      ((Itr lo n).stop i H ∧ Qd H) ∨ ((Itr lo n).go i H ∧ ∃ Nx : Hp → Prop, (∀ H', Nx H' → ∃ m', m' < m ∧ W (i + 1) m' H') ∧ ∀ x H', (Itr lo n).yld i H x H' → g x (wipe σ vs) H' fun σ2 H2 => wipe σ2 vs = wipe σ vs ∧ tt σ2 H2 fun b H3 =>
        if b = true then te σ2 H3 fun y H4 => ∃ acc, H4 D = some (.lst acc) ∧ acc.length < sizeLine ∧ Nx (upd H4 D (.lst (acc ++ [y]))) else Nx H3) := by
  refine lc_range (fun i H1 => ∃ ys, FillS K S H D H1 ys (((List.range i).filter p).map f) ∧ ys.length ≤ i) ⟨[], fillS_start hD, Nat.le_refl _⟩ 
    (fun i  H1 hi ⟨ys, fl, hy⟩ => ?_) (fun H1 ⟨ys, fl, hy⟩ => hd ys H1 fl.1.1 fl.1.2 hy fl.2)
  have hlt : i < n := hi
  refine hs i  H1 hi fl.1.1 ⟨ys, fl.1.2⟩ _ _ (fun hp y H2 s2 ry => ⟨ys, fl.1.at s2, small1000 (by omega), ys ++ [y], ?_, by rw [List.length_append, List.length_singleton]; omega⟩) (fun hp H2 s2 => ⟨ys, ?_, by omega⟩)
  · rw [List.range_succ, List.filter_append, List.map_append]
    have e1 : ([i].filter p) = [i] := by simp [hp]
    rw [e1]
    exact fillS_push hD fl s2 ry
  · rw [List.range_succ, List.filter_append]
    have e1 : ([i].filter p) = [] := by simp [hp]
    rw [e1, List.append_nil]
    exact fillS_same fl s2
end LK
namespace LK
open PySem PySem.Spec PyProof.Rows L2
def tTru (K : PySem.W.Frag) (ta : TE) : TT := fun σ H Q => ta σ H fun x H' => ∃ k, TruV K x H' k ∧ Q k H'
/-- the truth of a value, the written part named -/
theorem ptTru {X : Cx} (K : PySem.W.Frag) {a : Expr} {ta : TE} (ha : PE X a ta) (he : ∀ whole, isTrue a X.env whole = (do let v ← whole; standAt a.pos; holding [v] (truthy v))) (h : X.K = K := by rfl) : PT X a (tTru K ta) := h ▸ pt_truth ha he
/-! ### any of a list of ints -/
theorem ints_get : ∀ {its : List Value} {bs : List Int} {i : Nat} {v : Value}, PyProof.Rows.IntsAre its bs → its[i]? = some v → ∃ n t, bs[i]? = some n ∧ v = .int n t
  | _, _, i, v, .nil, h => by simp at h
  | _, _, 0, v, .cons n t r, h => ⟨n, t, rfl, by simpa using h.symm⟩
  | _, _, i + 1, v, .cons n t r, h => by
    obtain ⟨m, u, h1, h2⟩ := ints_get (i := i) r (by simpa using h)
    exact ⟨m, u, by simpa using h1, h2⟩
theorem ints_len : ∀ {its : List Value} {bs : List Int}, PyProof.Rows.IntsAre its bs → its.length = bs.length
  | _, _, .nil => rfl
  | _, _, .cons n t r => by rw [List.length_cons, List.length_cons, ints_len r]
theorem ints_true {prog : Program} {w : World} {A : Around} {ns : List Int} {vals : List Value} (are : PyProof.Rows.IntsAre vals ns) : TruthOf prog w A (fun i v => vals.toArray[i]? = some v) (fun i => ns.getD i 0 != 0) := by
  intro i v s Q E there q
  obtain ⟨n, t, hn, rfl⟩ := ints_get (i := i) (v := v) are (by simpa using there)
  have hd : ns.getD i 0 = n := by
    rw [List.getD_eq_getElem?_getD, hn]
    rfl
  refine truthy_int ?_
  rw [← hd]
  exact q
theorem any_at : ∀ ns : List Int, (List.range ns.length).any (fun i => ns.getD i 0 != 0) = ns.any (fun b => b != 0)
  | [] => rfl
  | n :: ns => by
    have ih := any_at ns
    show (List.range (ns.length + 1)).any (fun i => (n :: ns).getD i 0 != 0) = (n != 0 || ns.any fun b => b != 0)
    rw [← ih, List.range_succ_eq_map, List.any_cons, List.any_map]
    rfl
def rAnyI (K : PySem.W.Frag) : List V → Hp → VK → Prop := fun vs H Q => ∃ (l : Addr) (ns : List Int), vs = [V.ref l] ∧ SqL K H l (ns.map V.int) ∧ Q (.bl (ns.any (fun b => b != 0))) H
theorem anyI {X : Cx} (K : PySem.W.Frag) (calm : X.calm = true := by rfl) (hk : X.K = K := by rfl) : CallR X (.builtin "any") (rAnyI K) := by
  subst hk
  intro pn st σ H given args Q inv rel way
  obtain ⟨l, ns, rfl, seq, q⟩ := way
  obtain ⟨vals, held, plain, _⟩ := inv.list seq
  have are := held.ints
  rw [Vals.ref1 rel]
  refine call_any_walk (iter_any plain.isList fun s2 es state unlike => ?_)
  subst es
  refine ⟨_, _, _, _, _, _, _, rfl, Walks.list (A := X.A.in1) (inv.ok.hd calm) _ l unlike vals.toArray, state, ints_true are, fun h2 tk keeps => ⟨.bl _, H, ?_, ?_, q⟩⟩
  · refine inv.kept fun b o eo => keeps b o (fun isNew => ?_) (Heap.get?_push_of_some _ eo)
    rcases List.mem_cons.mp isNew with e | isNew
    · exact Nat.lt_irrefl _ (e ▸ Heap.lt_size eo)
    · cases isNew
  · show Value.bool _ = .bool _
    rw [← any_at, List.size_toArray, ints_len are]
theorem ltT {X : Cx} (K : PySem.W.Frag) (hu : X.A.units < cLine) (hK : X.K = K := by rfl) : OpR X (compareOp .Lt) (rLtT K) := hK ▸ op_ltT hu
theorem hu0 {A : Around} {k : Nat} (hr : Room k A) : A.units < cLine := by have := hr.un; omega
theorem hu65 {A : Around} {k : Nat} (hr : Room k A) : A.units + 65 < cLine := by have := hr.un; omega
theorem atI_end {xs ys : List V} {v : V} (h : ys = xs ++ [v]) : atI ys (-1) = some v := by
  subst h
  unfold atI ixN
  rw [if_neg (by decide), if_pos (by rw [List.length_append]; show -(((xs.length + 1 : Nat)) : Int) ≤ -1; omega)]
  have e : ((-1 : Int) + ((xs ++ [v]).length : Nat)).toNat = xs.length := by
    rw [List.length_append]
    show ((-1 : Int) + ((xs.length + 1 : Nat) : Int)).toNat = xs.length
    omega
  rw [e]
  show (xs ++ [v])[xs.length]? = some v
  simp
theorem idx_first : ∀ {ws : List Nat} {x : Nat}, x ∈ ws → ∃ j, ws[j]? = some x ∧ ∀ (m y : Nat), m < j → ws[m]? = some y → y ≠ x
  | [], _, h => by cases h
  | a :: ws, x, h => by
    by_cases e : a = x
    · exact ⟨0, by rw [e]; rfl, fun m y hm => by omega⟩
    · obtain ⟨j, h1, h2⟩ := idx_first (ws := ws) (x := x) (by rcases List.mem_cons.mp h with z | z; exact absurd z.symm e; exact z)
      refine ⟨j + 1, by simpa using h1, fun m y hm hy => ?_⟩
      cases m with
      | zero => simp at hy; rw [← hy]; exact e
      | succ m => exact h2 m y (by omega) (by simpa using hy)
end LK
namespace LK
open PySem PySem.Spec PyProof.Rows L2
def blindL (ms : List Nat) (left : Nat) : List Nat := (bitL ms.length left).filter fun x => decide (ms.getD x 0 &&& left = 0)
def blindM (ms : List Nat) (left : Nat) : Nat := maskL (natI (blindL ms left))
def spFirst : Sp := fun vs H Q _ => ∃ m : Nat, vs = [.int m] ∧ 0 < m ∧ ∀ t : Nat, m.testBit t = true → (∀ i, i < t → m.testBit i = false) → Q (.int t) H
def spBlind (K : PySem.W.Frag) : Sp := fun vs H Q _ => ∃ (D : Addr) (ms : List Nat) (left : Nat), vs = [.ref D, .int left] ∧ SqL K H D ((natI ms).map V.int) ∧ left < 2 ^ ms.length ∧ ms.length ≤ 45 ∧ ∀ H', Same H H' → Q (.int (blindM ms left : Nat)) H'
/-- ends of a tie, the one ahead first -/
def aheadB (ms : List Nat) (lo hi : Nat) : List Int := if (ms.getD lo 0).testBit hi then [(lo : Int), (hi : Int)] else [(hi : Int), (lo : Int)]
def spAhead (K : PySem.W.Frag) : Sp := fun vs H Q _ => ∃ (D t : Addr) (ms : List Nat) (lo hi : Nat), vs = [.ref D, .ref t] ∧ SqL K H D ((natI ms).map V.int) ∧ SqT K H t [.int lo, .int hi] ∧ lo < ms.length ∧ hi < ms.length ∧ ∀ p, H p = none → Q (.ref p) (upd H p (.tup ((aheadB ms lo hi).map V.int)))
theorem getD_some {ms : List Nat} {x : Nat} (h : x < ms.length) : ms[x]? = some (ms.getD x 0) := by
  rw [List.getD_eq_getElem?_getD, List.getElem?_eq_getElem h]
  rfl
theorem natAt {l : List Nat} {i : Nat} {v : V} (h : ((natI l).map V.int)[i]? = some v) : ∃ m : Nat, l[i]? = some m ∧ v = .int m := by
  unfold natI at h
  rw [List.map_map, List.getElem?_map] at h
  cases e : l[i]? with
  | none => rw [e] at h; cases h
  | some m => rw [e] at h; exact ⟨m, rfl, (Option.some.inj h).symm⟩
theorem bit_and1 (m k : Nat) : Builtin.bitAnd ((m : Int) / 2 ^ ((k : Int)).toNat) 1 = if m.testBit k then 1 else 0 := by
  have e : ((k : Int)).toNat = k := by omega
  have e1 : (m : Int) / 2 ^ ((k : Int)).toNat = ((m / 2 ^ k : Nat) : Int) := by rw [e]; norm_cast
  rw [e1]
  have := and_nat (m / 2 ^ k) 1
  rw [show ((1 : Nat) : Int) = 1 from rfl] at this
  rw [this, Nat.and_one_is_mod, Nat.testBit_eq_decide_div_mod_eq]
  by_cases c : m / 2 ^ k % 2 = 1
  · simp [c]
  · have : m / 2 ^ k % 2 = 0 := by omega
    simp [this]
section
variable {P : Program} {w : World} {K : PySem.W.Frag} {mg : Str → Option Value} {base : Heap} {ad : Nat → Addr} {fd : Nat → FuncData}
theorem ok_first_of (T : Txt K mg ad fd) : FnOk P w K mg base CX0 1 (ad 29) (fd 29) ["mask"] spFirst := by
  refine T.F_first_of.ok sc_first_of (fun vs H Q E h => ?_) (fun cdv A outer s H vs Q E hr h => ?_)
  · obtain ⟨m, rfl, _⟩ := h
    rfl
  · obtain ⟨m, rfl, hm, k⟩ := h
    refine ⟨_, (pss_cons (ps_set (i := 1) sc_first_of.nd rfl (Or.inl rfl) (pe_op op_and (pv 0) (pe_un un_neg (pv 0))))
  (pss_one (ps_ret (pe_op op_sub (pe_bits (pv 1)) pe_int)))), ?_⟩
    obtain ⟨t, h1, h2, h3⟩ := and_neg hm
    refine ⟨_, rfl, _, rfl, _, rfl, _, _, rfl, rfl, ?_⟩
    refine ⟨_, rfl, _, rfl, ?_⟩
    have eb : ((Builtin.Int.intBits (Builtin.bitAnd (m : Int) (-(m : Int))) : Nat) : Int) - 1 = (t : Nat) := by
      rw [h1, bits_pow]
      omega
    refine ⟨_, _, rfl, rfl, ?_⟩
    show Q (.int (((Builtin.Int.intBits (Builtin.bitAnd (m : Int) (-(m : Int))) : Nat) : Int) - 1)) H
    rw [eb]
    exact k t h2 h3
theorem ok_ahead_behind (T : Txt K mg ad fd) : FnOk P w K mg base CX0 1 (ad 33) (fd 33) ["out", "tie"] (spAhead K) := by
  refine T.F_ahead_behind.ok sc_ahead_behind (fun vs H Q E h => ?_) (fun cdv A outer s H vs Q E hr h => ?_)
  · obtain ⟨D, t, ms, lo, hi, rfl, _⟩ := h
    rfl
  · obtain ⟨D, t, ms, lo, hi, rfl, hD, ht, h1, h2, k⟩ := h
    refine ⟨_, (pss_cons (ps_asg (pv 1) (pg_tup rfl (pgs_cons (pg_name (i := 2) (x := "low") sc_ahead_behind.nd rfl (Or.inl rfl)) (pgs_cons (pg_name (i := 3) (x := "high") sc_ahead_behind.nd rfl (Or.inl rfl)) pgs_nil))))
  (pss_one (ps_ret (pe_ifExp (ptTru K (pe_op op_and (pe_op op_shr (pe_ix (ixL K) (pv 0) (pv 2) (fun _ _ => rfl)) (pv 3)) pe_int) (by intro _; rfl)) (pe_tup (pa_cons (pv 2) (pa_cons (pv 3) pa_nil))) (pe_tup (pa_cons (pv 3) (pa_cons (pv 2) pa_nil))))))), ?_⟩
    refine ⟨_, rfl, t, _, rfl, ht, rfl, _, _, rfl, _, _, rfl, rfl, ?_⟩
    refine ⟨_, rfl, _, rfl, D, _, _, _, rfl, rfl, hD, atI_nat (natI_get (getD_some h1)), _, rfl, _, _, rfl, rfl, (by show (0 : Int) ≤ _; omega), ?_⟩
    refine ⟨_, _, rfl, rfl, _, rfl, ?_⟩
    show if (Builtin.bitAnd (((ms.getD lo 0 : Nat) : Int) / 2 ^ ((hi : Int)).toNat) 1 != 0) = true then _ else _
    rw [bit_and1]
    have k' : ∀ l, l = (aheadB ms lo hi).map V.int → ∀ p, H p = none → Q (.ref p) (upd H p (.tup l)) := fun l e => by rw [e]; exact k
    unfold aheadB at k'
    cases c : (ms.getD lo 0).testBit hi with
    | true =>
      refine iteT ⟨_, rfl, _, rfl, (by show 2 ≤ sizeLine; decide), k' _ (by rw [c]; rfl)⟩
    | false =>
      refine iteF ⟨_, rfl, _, rfl, (by show 2 ≤ sizeLine; decide), k' _ (by rw [c]; rfl)⟩
theorem ok_blind_ends (T : Txt K mg ad fd) : FnOk P w K mg base CX0 2 (ad 35) (fd 35) ["out", "left"] (spBlind K) := by
  refine T.F_blind_ends.ok sc_blind_ends (fun vs H Q E h => ?_) (fun cdv A outer s H vs Q E hr h => ?_)
  · obtain ⟨D, ms, left, rfl, _⟩ := h
    rfl
  · obtain ⟨D, ms, left, rfl, hD, hl, hz, k⟩ := h
    refine ⟨_, (pss_one (ps_ret (pe_call (ok_mask_of T) (hr.mono (by decide)) rfl T.m_mask_of T.F_mask_of.kp (b_mask_of T) .nil pass0 (pa_cons (pe_lc (own := [("thing", 2)]) (g := gName 2) rfl sc_blind_ends.nd (piT K (pe_call (ok_things_of T) (hr.mono (by decide)) rfl T.m_things_of T.F_things_of.kp (b_things_of T) .nil pass0 (pa_cons (pv 1) pa_nil))) (blkOk_by (N := ["out", "left", "thing"]) (sc := defScope s_blind_ends) (by decide +kernel)) (fun _ _ _ _ _ => (pg_name (i := 2) (x := "thing") sc_blind_ends.nd rfl (Or.inl rfl))) (fun _ _ _ _ _ => (pts_one (pt_not (ptTru K (pe_op op_and (pe_ix (ixL K) (pv 0) (pv 2) (fun _ _ => rfl)) (pv 1)) (by intro _; rfl))))) (fun _ _ _ _ _ => (pv 2))) pa_nil)))), ?_⟩
    refine ⟨_, rfl, left, ms.length, rfl, hl, by omega, fun a H1 s1 ta => ⟨a, rfl, ⟨_, ta.1⟩, fun D2 hD2 => ?_⟩⟩
    refine lcT (K := K) (xs := (natI (bitL ms.length left)).map V.int) (fun j => decide (ms.getD ((bitL ms.length left).getD j 0) 0 &&& left = 0)) (fun j => .int (((bitL ms.length left).getD j 0 : Nat) : Int)) hD2 ta.1 (by rw [List.length_map]; exact ta.2) (fun _ _ _ => rfl) (fun i x H2 hi s2 Q1 Q2 k1 k2 => ?_) (fun ys H2 s2 hy r => ?_)
    · obtain ⟨m, hm, rfl⟩ := natAt hi
      have em : (bitL ms.length left).getD i 0 = m := by rw [List.getD_eq_getElem?_getD, hm]; rfl
      have hml : m < ms.length := (mem_bitL.mp (List.mem_of_getElem? hm)).1
      rw [em] at k1 k2
      refine ⟨rfl, _, rfl, _, rfl, D, _, _, _, rfl, rfl, (s1.trans s2).seq hD, atI_nat (natI_get (getD_some hml)), _, rfl, _, _, rfl, rfl, _, rfl, ?_⟩
      show if (!(Builtin.bitAnd ((ms.getD m 0 : Nat) : Int) (left : Int) != 0)) = true then _ else _
      rw [and_nat]
      by_cases c : ms.getD m 0 &&& left = 0
      · rw [c]
        exact iteT ⟨_, rfl, k1 (decide_eq_true c) _ _ (Same.refl _) (.int _)⟩
      · have e : (!(((ms.getD m 0 &&& left : Nat) : Int) != 0)) = false := by
          rw [Bool.not_eq_false', bne_iff_ne]
          omega
        rw [e]
        exact iteF (k2 (decide_eq_false c) _ (Same.refl _))
    · have ez : (((List.range ((natI (bitL ms.length left)).map V.int).length).filter fun j => decide (ms.getD ((bitL ms.length left).getD j 0) 0 &&& left = 0)).map fun j => PyData.int (((bitL ms.length left).getD j 0 : Nat) : Int)) = (natI (blindL ms left)).map PyData.int := by
        rw [List.length_map, natI_length, filter_map_range (fun x => decide (ms.getD x 0 &&& left = 0)) (fun x => PyData.int ((x : Nat) : Int)) 0 (bitL ms.length left)]
        unfold natI blindL
        rw [List.map_map]
        rfl
      rw [ez] at r
      have := r.ofInts
      subst this
      refine ⟨_, _, rfl, .inl (SqL.of hy), fun x hx => ?_, k _ (s1.trans s2)⟩
      unfold natI blindL at hx
      obtain ⟨y, hy2, rfl⟩ := List.mem_map.mp hx
      have := (mem_bitL.mp (List.mem_filter.mp hy2).1).1
      omega
end
end LK
namespace LK
open PySem PySem.Spec PyProof.Rows L2
/-- a lot all of whose things lead to one of it -/
def Closed (ms : List Nat) (S : Nat) : Prop := ∀ x, S.testBit x = true → ms.getD x 0 &&& S ≠ 0
def Acyc (ms : List Nat) : Prop := ∀ S, S < 2 ^ ms.length → Closed ms S → S = 0
def Edge (ms : List Nat) (x y : Nat) : Prop := (ms.getD x 0).testBit y = true
def Chain (ms : List Nat) (ws : List Nat) : Prop := ∀ i, i + 1 < ws.length → Edge ms (ws.getD i 0) (ws.getD (i + 1) 0)
def Ring (ms : List Nat) (ws : List Nat) : Prop := ws ≠ [] ∧ ws.Nodup ∧ Chain ms ws ∧ Edge ms (ws.getD (ws.length - 1) 0) (ws.getD 0 0)
theorem and_zero {a b : Nat} : a &&& b = 0 ↔ ∀ i, ¬ (a.testBit i = true ∧ b.testBit i = true) := by
  constructor
  · rintro h i ⟨h1, h2⟩
    have : (a &&& b).testBit i = true := by rw [Nat.testBit_and, h1, h2]; rfl
    rw [h, Nat.zero_testBit] at this
    cases this
  · intro h
    apply Nat.eq_of_testBit_eq
    intro i
    rw [Nat.testBit_and, Nat.zero_testBit]
    cases h1 : a.testBit i with
    | false => rfl
    | true =>
      cases h2 : b.testBit i with
      | false => rfl
      | true => exact absurd ⟨h1, h2⟩ (h i)
theorem and_ne {a b : Nat} (h : a &&& b ≠ 0) : ∃ i, a.testBit i = true ∧ b.testBit i = true := by
  apply Classical.byContradiction
  intro z
  exact h (and_zero.mpr fun i hi => z ⟨i, hi⟩)
theorem bit_ne {a i : Nat} (h : a.testBit i = true) : a ≠ 0 := by
  rintro rfl
  rw [Nat.zero_testBit] at h
  cases h
theorem ne_bit {a : Nat} (h : a ≠ 0) : ∃ i, a.testBit i = true := ⟨_, Nat.testBit_log2 h⟩
theorem natI_mem {l : List Nat} {x : Nat} : (x : Int) ∈ natI l ↔ x ∈ l := by
  unfold natI
  rw [List.mem_map]
  constructor
  · rintro ⟨y, hy, e⟩
    have : y = x := by omega
    rwa [← this]
  · intro h
    exact ⟨x, h, rfl⟩
theorem blindM_bit {ms : List Nat} {left : Nat} (h : left < 2 ^ ms.length) (x : Nat) : (blindM ms left).testBit x = (left.testBit x && decide (ms.getD x 0 &&& left = 0)) := by
  unfold blindM
  rw [maskL_bit (fun y hy => by unfold natI at hy; obtain ⟨z, _, rfl⟩ := List.mem_map.mp hy; omega)]
  have e : ((x : Int) ∈ natI (blindL ms left)) ↔ (left.testBit x && decide (ms.getD x 0 &&& left = 0)) = true := by
    rw [natI_mem, Bool.and_eq_true]
    unfold blindL
    rw [List.mem_filter, mem_bitL]
    exact ⟨fun z => ⟨z.1.2, z.2⟩, fun z => ⟨⟨testBit_lt h z.1, z.1⟩, z.2⟩⟩
  cases c : (left.testBit x && decide (ms.getD x 0 &&& left = 0)) with
  | false => exact decide_eq_false fun z => by rw [e, c] at z; cases z
  | true => exact decide_eq_true (e.mpr c)
theorem blindM_lt {ms : List Nat} {left : Nat} (h : left < 2 ^ ms.length) : blindM ms left < 2 ^ ms.length := lt_of_bits fun i hi => by
  rw [blindM_bit h, Bool.and_eq_true] at hi
  exact testBit_lt h hi.1
theorem closed_step {ms : List Nat} {left S : Nat} (h : left < 2 ^ ms.length) (hc : Closed ms S) (hs : ∀ x, S.testBit x = true → left.testBit x = true) (x : Nat) (hx : S.testBit x = true) : (left ^^^ blindM ms left).testBit x = true := by
  rw [Nat.testBit_xor, blindM_bit h, hs x hx]
  have : ¬ (ms.getD x 0 &&& left = 0) := by
    obtain ⟨i, h1, h2⟩ := and_ne (hc x hx)
    intro z
    exact and_zero.mp z i ⟨h1, hs i h2⟩
  rw [decide_eq_false this]
  rfl
theorem left_less {ms : List Nat} {left : Nat} (h : left < 2 ^ ms.length) (hb : blindM ms left ≠ 0) : (bitL ms.length (left ^^^ blindM ms left)).length < (bitL ms.length left).length := by
  obtain ⟨x, hx⟩ := ne_bit hb
  have hx2 := hx
  rw [blindM_bit h, Bool.and_eq_true] at hx2
  have nd : ∀ m, (bitL ms.length m).Nodup := fun m => (bitL_pw _ m).imp fun h => Nat.ne_of_lt h
  have h1 : (natI (x :: bitL ms.length (left ^^^ blindM ms left))).Nodup := by
    unfold natI
    refine List.Pairwise.map _ (fun a b (h : a ≠ b) => by omega) (List.nodup_cons.mpr ⟨fun z => ?_, nd _⟩)
    have := (mem_bitL.mp z).2
    rw [Nat.testBit_xor, hx, hx2.1] at this
    cases this
  have h2 : natI (x :: bitL ms.length (left ^^^ blindM ms left)) ⊆ natI (bitL ms.length left) := by
    intro y hy
    unfold natI at hy
    obtain ⟨z, hz, rfl⟩ := List.mem_map.mp hy
    refine natI_mem.mpr (mem_bitL.mpr ?_)
    rcases List.mem_cons.mp hz with rfl | hz
    · exact ⟨testBit_lt h hx2.1, hx2.1⟩
    · obtain ⟨h3, h4⟩ := mem_bitL.mp hz
      refine ⟨h3, ?_⟩
      rw [Nat.testBit_xor, blindM_bit h] at h4
      cases c : left.testBit z with
      | false => rw [c] at h4; simp at h4
      | true => rfl
  have := nodup_le h1 h2
  rw [natI_length, natI_length, List.length_cons] at this
  omega
theorem blind_closed {ms : List Nat} {left : Nat} (h : left < 2 ^ ms.length) (hb : blindM ms left = 0) : Closed ms left := by
  intro x hx z
  have : (blindM ms left).testBit x = true := by rw [blindM_bit h, hx, z]; simp
  rw [hb, Nat.zero_testBit] at this
  cases this
theorem full_bit {n x : Nat} : (2 ^ n - 1).testBit x = decide (x < n) := by rw [Nat.testBit_two_pow_sub_one]
theorem getD_l {a b : List Nat} {i : Nat} (h : i < a.length) : (a ++ b).getD i 0 = a.getD i 0 := by
  rw [List.getD_eq_getElem?_getD, List.getD_eq_getElem?_getD, List.getElem?_append_left h]
theorem getD_r {a b : List Nat} {i : Nat} (h : a.length ≤ i) : (a ++ b).getD i 0 = b.getD (i - a.length) 0 := by
  rw [List.getD_eq_getElem?_getD, List.getD_eq_getElem?_getD, List.getElem?_append_right h]
/-- walking on -/
theorem chain_snoc {ms : List Nat} {ws : List Nat} {x : Nat} (h0 : ws ≠ []) (c : Chain ms ws) (e : Edge ms (ws.getD (ws.length - 1) 0) x) : Chain ms (ws ++ [x]) := by
  have hl : 0 < ws.length := List.length_pos_iff.mpr h0
  intro i hi
  rw [List.length_append, List.length_singleton] at hi
  by_cases z : i + 1 < ws.length
  · rw [getD_l (by omega), getD_l z]
    exact c i z
  · have e1 : i + 1 = ws.length := by omega
    rw [getD_l (by omega), getD_r (by omega), e1]
    have e2 : i = ws.length - 1 := by omega
    rw [e2]
    simpa using e
theorem ring_drop {ms : List Nat} {ws : List Nat} {j : Nat} (hj : j < ws.length) (nd : ws.Nodup) (c : Chain ms ws) (e : Edge ms (ws.getD (ws.length - 1) 0) (ws.getD j 0)) : Ring ms (ws.drop j) := by
  have g : ∀ i, (ws.drop j).getD i 0 = ws.getD (j + i) 0 := fun i => by rw [List.getD_eq_getElem?_getD, List.getD_eq_getElem?_getD, List.getElem?_drop]
  refine ⟨fun z => ?_, nd.sublist (List.drop_sublist _ _), fun i hi => ?_, ?_⟩
  · have := congrArg List.length z
    rw [List.length_drop, List.length_nil] at this
    omega
  · rw [List.length_drop] at hi
    rw [g, g]
    exact c (j + i) (by omega)
  · rw [g, g, List.length_drop]
    have e1 : j + (ws.length - j - 1) = ws.length - 1 := by omega
    rw [e1]
    exact e
end LK
namespace LK
open PySem PySem.Spec PyProof.Rows L2
def spRound (K : PySem.W.Frag) : Sp := fun vs H Q _ => ∃ (D : Addr) (ms : List Nat), vs = [.ref D] ∧ SqL K H D ((natI ms).map V.int) ∧ ms.length ≤ 45 ∧
  (Acyc ms → ∀ H', Same H H' → Q .non H') ∧ (∀ a ws H', Same H H' → TupI K H' a (natI ws) → Ring ms ws → ¬ Acyc ms → Q (.ref a) H')
section
variable {P : Program} {w : World} {K : PySem.W.Frag} {mg : Str → Option Value} {base : Heap} {ad : Nat → Addr} {fd : Nat → FuncData}
theorem ok_round_in (T : Txt K mg ad fd) : FnOk P w K mg base CX0 3 (ad 36) (fd 36) ["out"] (spRound K) := by
  refine T.F_round_in.ok sc_round_in (fun vs H Q E h => ?_) (fun cdv A outer s H vs Q E hr h => ?_)
  · obtain ⟨D, ms, rfl, _⟩ := h
    rfl
  · obtain ⟨D, ms, rfl, hD, hz, k1, k2⟩ := h
    refine ⟨_, (pss_cons (ps_set (i := 1) sc_round_in.nd rfl (Or.inl rfl) (pe_op op_sub (pe_op op_shl pe_int (pe_callB (lenS K) (by rfl) T.g_len (by decide +kernel) (pa_cons (pv 0) pa_nil))) pe_int))
  (pss_cons (ps_set (i := 2) sc_round_in.nd rfl (Or.inl rfl) (pe_call (ok_blind_ends T) (hr.mono (by decide)) rfl T.m_blind_ends T.F_blind_ends.kp (b_blind_ends T) .nil pass0 (pa_cons (pv 0) (pa_cons (pv 1) pa_nil))))
  (pss_cons (ps_while PassesOwn.never (pt_truth (pv 2) (by intro _; rfl))
  (pss_cons (ps_set (i := 1) sc_round_in.nd rfl (Or.inl rfl) (pe_op op_xor (pv 1) (pv 2)))
  (pss_one (ps_set (i := 2) sc_round_in.nd rfl (Or.inl rfl) (pe_call (ok_blind_ends T) (hr.mono (by decide)) rfl T.m_blind_ends T.F_blind_ends.kp (b_blind_ends T) .nil pass0 (pa_cons (pv 0) (pa_cons (pv 1) pa_nil)))))))
  (pss_cons (ps_if (pt_not (pt_truth (pv 1) (by intro _; rfl))) (pss_one (ps_ret pe_non))
  pss_nil)
  (pss_cons (ps_set (i := 3) sc_round_in.nd rfl (Or.inl rfl) (pe_lst (pa_cons (pe_call (ok_first_of T) (hr.mono (by decide)) rfl T.m_first_of T.F_first_of.kp (b_first_of T) .nil pass0 (pa_cons (pv 1) pa_nil)) pa_nil)))
  (pss_cons (ps_set (i := 4) sc_round_in.nd rfl (Or.inl rfl) (pe_call (ok_first_of T) (hr.mono (by decide)) rfl T.m_first_of T.F_first_of.kp (b_first_of T) .nil pass0 (pa_cons (pe_op op_and (pe_ix (ixL K) (pv 0) (pe_ix (ixL K) (pv 3) (pe_un un_neg pe_int) (fun _ _ => rfl)) (fun _ _ => rfl)) (pv 1)) pa_nil)))
  (pss_cons (ps_while PassesOwn.never (pt_cmpR (notInS K) (pv 4) (pv 3) (by with_unfolding_all rfl))
  (pss_cons (ps_expr (pe_bmK K PySem.F.plainAttrs_list PySem.F.slot_list_append PySem.F.type_list_append mt_append (pv 3) (pa_cons (pv 4) pa_nil)))
  (pss_one (ps_set (i := 4) sc_round_in.nd rfl (Or.inl rfl) (pe_call (ok_first_of T) (hr.mono (by decide)) rfl T.m_first_of T.F_first_of.kp (b_first_of T) .nil pass0 (pa_cons (pe_op op_and (pe_ix (ixL K) (pv 0) (pv 4) (fun _ _ => rfl)) (pv 1)) pa_nil))))))
  (pss_one (ps_ret (pe_callTy (tupOf K) (by rfl) T.g_tuple (by decide +kernel) (pa_cons (pe_slice (slL K) (pv 3) (po_some (pe_bmK K PySem.F.plainAttrs_list PySem.F.slot_list_index PySem.F.type_list_index (mtIndex K) (pv 3) (pa_cons (pv 4) pa_nil))) po_none) pa_nil))))))))))), ?_⟩
    have hfull : (2 : Nat) ^ ms.length - 1 < 2 ^ ms.length := by
      have := Nat.two_pow_pos ms.length
      omega
    have ef : (1 : Int) * 2 ^ ((((((natI ms).map V.int).length : Nat) : Int)).toNat) - 1 = ((2 ^ ms.length - 1 : Nat) : Int) := by
      have := Nat.two_pow_pos ms.length
      rw [List.length_map, natI_length]
      have e1 : (((ms.length : Nat) : Int)).toNat = ms.length := by omega
      rw [e1, Int.one_mul]
      have e2 : ((2 ^ ms.length - 1 : Nat) : Int) = ((2 ^ ms.length : Nat) : Int) - 1 := by omega
      rw [e2]
      norm_cast
    refine ⟨_, rfl, _, _, rfl, .inl hD, _, _, rfl, rfl, ⟨by omega, by rw [List.length_map, natI_length]; omega, by decide⟩, ?_⟩
    refine ⟨_, _, rfl, rfl, ?_⟩
    dsimp only
    rw [ef]
    refine ⟨_, rfl, _, rfl, D, ms, 2 ^ ms.length - 1, rfl, hD, hfull, hz, fun H1 s1 => ?_⟩
    show tWhile (fun σ H1 Q => tVar 2 σ H1 fun x H' => ∃ k, TruV K x H' k ∧ Q k H') _ _ [some (V.ref D), some (V.int ((2 ^ ms.length - 1 : Nat) : Int)), some (V.int (blindM ms (2 ^ ms.length - 1) : Nat)), none, none] _
    refine while_by (fun σ H2 => ∃ (left : Nat), σ = [some (.ref D), some (.int (left : Nat)), some (.int (blindM ms left : Nat)), none, none] ∧ Same H H2 ∧ left < 2 ^ ms.length ∧ (∀ S, S < 2 ^ ms.length → Closed ms S → ∀ x, S.testBit x = true → left.testBit x = true))
      (fun (σ : L2.St) (_ : Hp) => match σ[1]? with | some (some (V.int z)) => (bitL ms.length z.toNat).length | _ => 0)
      ⟨_, rfl, s1, hfull, fun S hS _ x hx => by rw [full_bit]; exact decide_eq_true (testBit_lt hS hx)⟩ (fun σ H2 hp => ?_) (fun σ H1 Q1 Q2 hq ⟨v, e, kk, t, q⟩ => ⟨v, e, kk, t, hq _ _ q⟩)
    obtain ⟨left, rfl, s2, hl, hcl⟩ := hp
    refine ⟨_, rfl, _, rfl, ?_⟩
    by_cases c : blindM ms left = 0
    rotate_left
    · have ec : (((blindM ms left : Nat) : Int) != 0) = true := by
        rw [bne_iff_ne]
        omega
      rw [ec]
      refine iteT ⟨_, rfl, _, rfl, _, _, rfl, rfl, ?_⟩
      dsimp only
      rw [xor_nat]
      have hl2 : left ^^^ blindM ms left < 2 ^ ms.length := Nat.xor_lt_two_pow hl (blindM_lt hl)
      refine ⟨_, rfl, _, rfl, D, ms, left ^^^ blindM ms left, rfl, s2.seq hD, hl2, hz, fun H3 s3 => ⟨⟨_, rfl, s2.trans s3, hl2, fun S hS hc x hx => closed_step hl hc (hcl S hS hc) x hx⟩, ?_⟩⟩
      show (bitL ms.length (left ^^^ blindM ms left)).length < (bitL ms.length left).length
      exact left_less hl c
    · rw [c]
      refine iteF ?_
      refine ⟨_, rfl, _, rfl, ?_⟩
      by_cases c2 : left = 0
      · subst c2
        refine iteT ?_
        refine k1 (fun S hS hc => ?_) H2 s2
        apply Classical.byContradiction
        intro z
        obtain ⟨x, hx⟩ := ne_bit z
        have := hcl S hS hc x hx
        rw [Nat.zero_testBit] at this
        cases this
      · have ec : (!((((left : Nat) : Int)) != 0)) = false := by
          rw [Bool.not_eq_false', bne_iff_ne]
          omega
        show if (!((((left : Nat) : Int)) != 0)) = true then _ else _
        rw [ec]
        refine iteF ?_
        have hclo := blind_closed hl c
        refine ⟨_, rfl, left, rfl, by omega, fun t ht1 ht2 => ?_⟩
        refine ⟨(by show 1 ≤ sizeLine; decide), fun W hW => ?_⟩
        have hWn : H W = none := s2.free hW
        have stay : ∀ x, left.testBit x = true → ∃ y, Edge ms x y ∧ left.testBit y = true := fun x hx => by
          obtain ⟨i, h1, h2⟩ := and_ne (hclo x hx)
          exact ⟨i, h1, h2⟩
        have nxt : ∀ x t, 0 < ms.getD x 0 &&& left → (ms.getD x 0 &&& left).testBit t = true → Edge ms x t ∧ left.testBit t = true := fun x t _ ht => by
          rw [Nat.testBit_and, Bool.and_eq_true] at ht
          exact ht
        have htl := testBit_lt hl ht1
        have hpos : ∀ x, left.testBit x = true → 0 < ms.getD x 0 &&& left := fun x hx => Nat.pos_of_ne_zero (hclo x hx)
        refine ⟨_, rfl, _, rfl, _, rfl, W, _, _, _, rfl, rfl, SqL.of upd_same, atI_end (xs := []) rfl, D, _, _, _, rfl, rfl, (s2.trans (same_upd hW)).seq hD, atI_nat (natI_get (getD_some htl)), _, rfl, _, _, rfl, rfl, ?_⟩
        refine ⟨ms.getD t 0 &&& left, by show [V.int (Builtin.bitAnd ((ms.getD t 0 : Nat) : Int) ((left : Nat) : Int))] = _; rw [and_nat], hpos t ht1, fun t2 h1 h2 => ?_⟩
        obtain ⟨he2, hl2⟩ := nxt _ _ (hpos t ht1) h1
        show tWhile _ _ _ [some (V.ref D), some (V.int left), _, some (V.ref W), some (V.int t2)] _
        refine while_by (fun σ H3 => ∃ (ws : List Nat) (x : Nat) (v2 : Option V), σ = [some (.ref D), some (.int (left : Nat)), v2, some (.ref W), some (.int (x : Nat))] ∧ Same H H3 ∧ H3 W = some (.lst ((natI ws).map V.int)) ∧ ws ≠ [] ∧ ws.Nodup ∧ (∀ y ∈ ws, left.testBit y = true) ∧ Chain ms ws ∧ Edge ms (ws.getD (ws.length - 1) 0) x ∧ left.testBit x = true)
          (fun (_ : L2.St) (H3 : Hp) => match H3 W with | some (HO.lst l) => ms.length + 1 - l.length | _ => 0)
          ⟨[t], t2, _, rfl, s2.trans (same_upd hW), upd_same, by simp, by simp, fun y hy => by rw [List.mem_singleton.mp hy]; exact ht1, fun i hi => absurd hi (by simp), he2, hl2⟩ (fun σ H3 hp => ?_) (fun σ H1 Q1 Q2 hq h => ?_)
        · obtain ⟨ws, x, v2, rfl, s3, hW3, hw0, hwn, hwl, hwc, hwe, hxl⟩ := hp
          refine ⟨_, rfl, _, rfl, W, _, rfl, .inl (SqL.of hW3), rfl, flat_ints (natI ws), ?_⟩
          refine ⟨_, rfl, ?_⟩
          show if (!inV (.int (x : Int)) ((natI ws).map V.int)) = true then _ else _
          rw [inV_int, decide_eq_decide.mpr natI_mem]
          have hws : ws.length ≤ ms.length := by
            have h5 : (natI ws).Nodup := List.Pairwise.map _ (fun a b (h : a ≠ b) => by omega) hwn
            have h6 : natI ws ⊆ natI (List.range ms.length) := fun z hz => by
              unfold natI at hz
              obtain ⟨y, hy, rfl⟩ := List.mem_map.mp hz
              exact natI_mem.mpr (List.mem_range.mpr (testBit_lt hl (hwl y hy)))
            have := nodup_le h5 h6
            rw [natI_length, natI_length, List.length_range] at this
            exact this
          by_cases cx : x ∈ ws
          · rw [decide_eq_true cx]
            refine iteF ?_
            obtain ⟨j, hj, hfst⟩ := idx_first cx
            have hjl := (List.getElem?_eq_some_iff.mp hj).1
            have hjg : ws.getD j 0 = x := by rw [List.getD_eq_getElem?_getD, hj]; rfl
            dsimp only [tNoPart]
            refine ⟨_, rfl, _, rfl, .inl ⟨rfl, _, SqL.of hW3⟩, _, rfl, W, _, _, j, _, rfl, rfl, SqL.of hW3, rfl, flat_ints (natI ws), natI_get hj, ?_, fun m z hm hz => ?_, ?_⟩
            · show decide ((x : Int) = (x : Int)) = true
              exact decide_eq_true rfl
            · obtain ⟨y, hy, rfl⟩ := natAt hz
              show decide ((y : Int) = (x : Int)) = false
              have := hfst m y hm hy
              exact decide_eq_false (by omega)
            · refine ⟨_, rfl, ?_⟩
              dsimp only [tNoPart]
              refine ⟨W, _, rfl, SqL.of hW3, fun p hp => ?_⟩
              dsimp only [tNil]
              rw [cut_drop (by omega) (by rw [List.length_map, natI_length]; omega)]
              refine tupL_use (SqL.of upd_same) fun q H5 s5 hq => ?_
              have e1 : (((natI ws).map V.int).drop ((j : Int)).toNat) = (natI (ws.drop j)).map V.int := by
                have : ((j : Int)).toNat = j := by omega
                rw [this]
                unfold natI
                rw [List.map_drop, List.map_drop]
              rw [e1] at hq
              refine k2 q (ws.drop j) H5 ((s3.trans (same_upd hp)).trans s5) ⟨hq, by rw [natI_length, List.length_drop]; omega⟩ (ring_drop hjl hwn hwc (by rw [hjg]; exact hwe)) (fun ha => ?_)
              have := ha left hl hclo
              omega
          · rw [decide_eq_false cx]
            refine iteT ?_
            have hxl2 := testBit_lt hl hxl
            have hw3 : upd H3 W (.lst ((natI ws).map V.int ++ [.int (x : Int)])) W = some (.lst ((natI (ws ++ [x])).map V.int)) := by
              rw [upd_same]
              unfold natI
              rw [List.map_append, List.map_append]
              rfl
            refine ⟨_, rfl, .inl ⟨rfl, _, SqL.of hW3⟩, _, rfl, W, _, _, rfl, rfl, hW3, small1000 (by rw [List.length_map, natI_length]; omega), ?_⟩
            refine ⟨_, rfl, _, rfl, D, _, _, _, rfl, rfl, (same_upd2 hWn s3).seq hD, atI_nat (natI_get (getD_some hxl2)), _, rfl, _, _, rfl, rfl, ?_⟩
            refine ⟨ms.getD x 0 &&& left, by show [V.int (Builtin.bitAnd ((ms.getD x 0 : Nat) : Int) ((left : Nat) : Int))] = _; rw [and_nat], hpos x hxl, fun t3 h3 h4 => ?_⟩
            obtain ⟨he3, hl3⟩ := nxt _ _ (hpos x hxl) h3
            refine ⟨⟨ws ++ [x], t3, _, rfl, same_upd2 hWn s3, hw3, by simp, ?_, ?_, chain_snoc hw0 hwc hwe, ?_, hl3⟩, ?_⟩
            · refine List.nodup_append.mpr ⟨hwn, by simp, fun a ha b hb => ?_⟩
              rw [List.mem_singleton.mp hb]
              rintro rfl
              exact cx ha
            · intro y hy
              rcases List.mem_append.mp hy with z | z
              · exact hwl y z
              · rw [List.mem_singleton.mp z]
                exact hxl
            · rw [List.length_append, List.length_singleton, getD_r (by omega)]
              have e : ws.length + 1 - 1 - ws.length = 0 := by omega
              rw [e]
              exact he3
            · rw [hw3, hW3]
              simp only [List.length_map, natI_length, List.length_append, List.length_singleton]
              omega
        · obtain ⟨v, e, u, e2, a, ys, e3, e4, f1, f2, k, ek, q⟩ := h
          exact ⟨v, e, u, e2, a, ys, e3, e4, f1, f2, k, ek, hq _ _ q⟩
end
end LK
namespace LK
open PySem PySem.Spec PyProof.Rows L2
def edgeB (ms : List Nat) (x y : Nat) : Bool := (ms.getD x 0).testBit y
def freeL (E : Nat → Nat → Bool) (left : List Nat) : List Nat := left.filter fun x => !(left.any fun o => E o x)
def lineGo (E : Nat → Nat → Bool) : Nat → List Nat → List Nat
  | 0, _ => []
  | k + 1, left => match freeL E left with
    | [] => []
    | f :: _ => f :: lineGo E k (left.filter fun x => decide (x ≠ f))
def lineN (ms : List Nat) : List Nat := lineGo (edgeB ms) ms.length (List.range ms.length)
theorem freeL_nil (E : Nat → Nat → Bool) : freeL E [] = [] := rfl
theorem lineGo_nil (E : Nat → Nat → Bool) (k : Nat) : lineGo E k [] = [] := by
  cases k <;> rfl
theorem lineGo_cons {E : Nat → Nat → Bool} {k : Nat} {left fs : List Nat} {f : Nat} (h : freeL E left = f :: fs) : lineGo E (k + 1) left = f :: lineGo E k (left.filter fun x => decide (x ≠ f)) := by
  show (match freeL E left with | [] => [] | f :: _ => f :: lineGo E k (left.filter fun x => decide (x ≠ f))) = _
  rw [h]
theorem natI_nn {l : List Nat} : ∀ x ∈ natI l, 0 ≤ x := fun y hy => by
  unfold natI at hy
  obtain ⟨z, _, rfl⟩ := List.mem_map.mp hy
  omega
/-- each lot has a thing that leads to none of it -/
theorem acyc_sink {ms : List Nat} (ha : Acyc ms) {l : List Nat} (h0 : l ≠ []) (hl : ∀ x ∈ l, x < ms.length) : ∃ x ∈ l, ∀ y ∈ l, edgeB ms x y = false := by
  apply Classical.byContradiction
  intro z
  have hb : ∀ i, (maskL (natI l)).testBit i = decide (i ∈ l) := fun i => by rw [maskL_bit natI_nn, decide_eq_decide.mpr natI_mem]
  have hlt : maskL (natI l) < 2 ^ ms.length := lt_of_bits fun i hi => by
    rw [hb, decide_eq_true_eq] at hi
    exact hl i hi
  have hc : Closed ms (maskL (natI l)) := fun x hx he => by
    rw [hb, decide_eq_true_eq] at hx
    refine z ⟨x, hx, fun y hy => ?_⟩
    cases c : edgeB ms x y with
    | false => rfl
    | true => exact absurd ⟨c, by rw [hb, decide_eq_true_eq]; exact hy⟩ (and_zero.mp he y)
  have := ha _ hlt hc
  obtain ⟨x, hx⟩ := List.exists_mem_of_ne_nil l h0
  have h2 := hb x
  rw [this, Nat.zero_testBit, decide_eq_true hx] at h2
  cases h2
/-- each lot has a thing to which none of it leads -/
theorem acyc_source {ms : List Nat} (ha : Acyc ms) : ∀ (k : Nat) {l : List Nat}, l.length ≤ k → l ≠ [] → (∀ x ∈ l, x < ms.length) → ∃ x ∈ l, ∀ y ∈ l, edgeB ms y x = false
  | 0, l, h, h0, _ => absurd (List.length_eq_zero_iff.mp (by omega)) h0
  | k + 1, l, h, h0, hl => by
    obtain ⟨s, hs, hn⟩ := acyc_sink ha h0 hl
    by_cases c : (l.filter fun x => decide (x ≠ s)) = []
    · refine ⟨s, hs, fun y hy => ?_⟩
      have : y = s := by
        apply Classical.byContradiction
        intro z
        have : y ∈ l.filter fun x => decide (x ≠ s) := List.mem_filter.mpr ⟨hy, decide_eq_true z⟩
        rw [c] at this
        cases this
      rw [this]
      exact hn s hs
    · have hlen : (l.filter fun x => decide (x ≠ s)).length < l.length := List.length_filter_lt_length_iff_exists.mpr ⟨s, hs, by simp⟩
      obtain ⟨x, hx, hn2⟩ := acyc_source ha k (l := l.filter fun x => decide (x ≠ s)) (by omega) c (fun x hx => hl x (List.mem_filter.mp hx).1)
      refine ⟨x, (List.mem_filter.mp hx).1, fun y hy => ?_⟩
      by_cases e : y = s
      · rw [e]
        exact hn x (List.mem_filter.mp hx).1
      · exact hn2 y (List.mem_filter.mpr ⟨hy, decide_eq_true e⟩)
theorem free_some {ms : List Nat} (ha : Acyc ms) {l : List Nat} (h0 : l ≠ []) (hl : ∀ x ∈ l, x < ms.length) : ∃ f fs, freeL (edgeB ms) l = f :: fs ∧ f ∈ l := by
  obtain ⟨x, hx, hn⟩ := acyc_source ha l.length (Nat.le_refl _) h0 hl
  have hm : x ∈ freeL (edgeB ms) l := by
    refine List.mem_filter.mpr ⟨hx, ?_⟩
    rw [Bool.not_eq_true']
    exact List.any_eq_false.mpr fun y hy => by rw [hn y hy]; exact Bool.false_ne_true
  cases e : freeL (edgeB ms) l with
  | nil => rw [e] at hm; cases hm
  | cons f fs => exact ⟨f, fs, rfl, (List.mem_filter.mp (by show f ∈ freeL (edgeB ms) l; rw [e]; simp)).1⟩
/-- the line has each thing once, and no thing leads to an earlier one -/
theorem lineGo_spec {ms : List Nat} (ha : Acyc ms) : ∀ (k : Nat) {l : List Nat}, l.length ≤ k → l.Nodup → (∀ x ∈ l, x < ms.length) → (∀ x, x ∈ lineGo (edgeB ms) k l ↔ x ∈ l) ∧ (lineGo (edgeB ms) k l).Nodup ∧ (lineGo (edgeB ms) k l).Pairwise (fun a b => edgeB ms b a = false)
  | 0, l, h, _, _ => by
    have : l = [] := List.length_eq_zero_iff.mp (by omega)
    subst this
    exact ⟨fun x => Iff.rfl, List.Pairwise.nil, List.Pairwise.nil⟩
  | k + 1, l, h, nd, hl => by
    by_cases h0 : l = []
    · subst h0
      rw [lineGo_nil]
      exact ⟨fun x => Iff.rfl, List.Pairwise.nil, List.Pairwise.nil⟩
    · obtain ⟨f, fs, e, hf⟩ := free_some ha h0 hl
      rw [lineGo_cons e]
      have hlen : (l.filter fun x => decide (x ≠ f)).length < l.length := List.length_filter_lt_length_iff_exists.mpr ⟨f, hf, by simp⟩
      obtain ⟨h1, h2, h3⟩ := lineGo_spec ha k (l := l.filter fun x => decide (x ≠ f)) (by omega) (nd.sublist List.filter_sublist) (fun x hx => hl x (List.mem_filter.mp hx).1)
      have hff : ∀ o ∈ l, edgeB ms o f = false := fun o ho => by
        have : f ∈ freeL (edgeB ms) l := by rw [e]; simp
        have := (List.mem_filter.mp this).2
        rw [Bool.not_eq_true'] at this
        have := List.any_eq_false.mp this o ho
        cases c : edgeB ms o f with
        | false => rfl
        | true => exact absurd c this
      refine ⟨fun x => ?_, List.nodup_cons.mpr ⟨fun z => ?_, h2⟩, List.pairwise_cons.mpr ⟨fun b hb => hff b (List.mem_filter.mp ((h1 b).mp hb)).1, h3⟩⟩
      · rw [List.mem_cons, h1, List.mem_filter, decide_eq_true_eq]
        constructor
        · rintro (rfl | ⟨z, _⟩)
          · exact hf
          · exact z
        · intro z
          by_cases c : x = f
          · exact .inl c
          · exact .inr ⟨z, c⟩
      · have := (List.mem_filter.mp ((h1 f).mp z)).2
        simp at this
/-- where a line fits there is no ring -/
theorem acyc_of_line {ms : List Nat} (Lw : List Nat) (hm : ∀ x, x < ms.length → x ∈ Lw) (hp : Lw.Pairwise (fun a b => edgeB ms b a = false)) (hs : ∀ x, edgeB ms x x = false) : Acyc ms := by
  intro S hS hc
  have key : ∀ (L pre : List Nat), pre ++ L = Lw → ∀ x ∈ L, S.testBit x = false := by
    intro L
    induction L with
    | nil => intro pre _ x hx; cases hx
    | cons a L ih =>
      intro pre e
      have ih2 := ih (pre ++ [a]) (by rw [← e]; simp)
      have ha : S.testBit a = false := by
        cases c : S.testBit a with
        | false => rfl
        | true =>
          obtain ⟨y, hy1, hy2⟩ := and_ne (hc a c)
          have hy := hm y (testBit_lt hS hy2)
          rw [← e] at hy hp
          rcases List.mem_append.mp hy with z | z
          · have := (List.pairwise_append.mp hp).2.2 y z a (by simp)
            have h1 : edgeB ms a y = true := hy1
            rw [this] at h1
            cases h1
          · rcases List.mem_cons.mp z with z | z
            · subst z
              have h1 : edgeB ms y y = true := hy1
              rw [hs] at h1
              cases h1
            · rw [ih2 y z] at hy2
              cases hy2
      intro x hx
      rcases List.mem_cons.mp hx with z | z
      · rw [z]
        exact ha
      · exact ih2 x z
  apply Classical.byContradiction
  intro h0
  obtain ⟨x, hx⟩ := ne_bit h0
  have := key Lw [] rfl x (hm x (testBit_lt hS hx))
  rw [this] at hx
  cases hx
theorem lineN_spec {ms : List Nat} (ha : Acyc ms) : (∀ x, x ∈ lineN ms ↔ x < ms.length) ∧ (lineN ms).Nodup ∧ (lineN ms).Pairwise (fun a b => edgeB ms b a = false) := by
  have := lineGo_spec ha ms.length (l := List.range ms.length) (by rw [List.length_range]; exact Nat.le_refl _) List.nodup_range (fun x hx => List.mem_range.mp hx)
  exact ⟨fun x => by unfold lineN; rw [this.1, List.mem_range], this.2⟩
end LK
namespace LK
open PySem PySem.Spec PyProof.Rows L2
theorem canLay_ints : ∀ ns : List Int, PyData.canLayAll0 (ns.map PyData.int) = true
  | [] => rfl
  | n :: ns => by
    rw [List.map_cons]
    unfold PyData.canLayAll0
    rw [canLay_ints ns]
    rfl
theorem canLay_rows : ∀ T : List (List Int), PyData.canLayAll0 (T.map dTup) = true
  | [] => rfl
  | r :: T => by
    rw [List.map_cons]
    unfold PyData.canLayAll0
    rw [canLay_rows T]
    show (PyData.canLayAll0 (r.map PyData.int) && true) = true
    rw [canLay_ints r]
    rfl
theorem depth_ints : ∀ ns : List Int, PyData.depthAll (ns.map PyData.int) = 0
  | [] => rfl
  | n :: ns => by
    rw [List.map_cons]
    unfold PyData.depthAll
    rw [depth_ints ns]
    rfl
theorem depth_rows : ∀ T : List (List Int), PyData.depthAll (T.map dTup) ≤ 1
  | [] => Nat.zero_le _
  | r :: T => by
    rw [List.map_cons]
    unfold PyData.depthAll
    have h1 := depth_rows T
    have h2 : PyData.depth (dTup r) = 1 := by
      show PyData.depthAll (r.map PyData.int) + 1 = 1
      rw [depth_ints]
    rw [h2]
    omega
theorem shaped_row (r : List Int) : SeqAt.shaped (dTup r) = true := by
  have h2 : PyData.depth (dTup r) = 1 := by
    show PyData.depthAll (r.map PyData.int) + 1 = 1
    rw [depth_ints]
  have h1 : PyData.canLay0 (dTup r) = true := canLay_ints r
  unfold SeqAt.shaped
  rw [h1, h2]
  rfl
theorem shaped_rows (T : List (List Int)) : SeqAt.shaped (.tuple (T.map dTup)) = true := by
  have h1 : PyData.canLay0 (.tuple (T.map dTup)) = true := canLay_rows T
  have h2 : PyData.depth (.tuple (T.map dTup)) ≤ 64 := by
    show PyData.depthAll (T.map dTup) + 1 ≤ 64
    have := depth_rows T
    omega
  unfold SeqAt.shaped
  rw [h1, decide_eq_true h2]
  rfl
theorem eqv_ints : ∀ a b : List Int, PyData.eqvAll (a.map PyData.int) (b.map PyData.int) = decide (a = b)
  | [], [] => rfl
  | [], _ :: _ => rfl
  | _ :: _, [] => rfl
  | x :: a, y :: b => by
    rw [List.map_cons, List.map_cons]
    unfold PyData.eqvAll
    rw [eqv_ints a b]
    show ((x == y) && decide (a = b)) = decide (x :: a = y :: b)
    by_cases c : x = y
    · subst c
      simp
    · simp [c]
theorem dTup_inj {a b : List Int} (h : dTup a = dTup b) : a = b := by rw [← dInts_tup a, h, dInts_tup]
theorem mem_rows {T : List (List Int)} {r : List Int} : dTup r ∈ T.map dTup ↔ r ∈ T := by
  rw [List.mem_map]
  exact ⟨fun ⟨a, ha, e⟩ => by rw [← dTup_inj e]; exact ha, fun h => ⟨r, h, rfl⟩⟩
theorem any_rows (T : List (List Int)) (r : List Int) : ((T.map dTup).any fun z => PyData.eqv z (dTup r)) = true ↔ dTup r ∈ T.map dTup := by
  rw [List.any_eq_true, mem_rows]
  constructor
  · rintro ⟨z, hz, he⟩
    obtain ⟨a, ha, rfl⟩ := List.mem_map.mp hz
    have e2 : PyData.eqvAll (a.map PyData.int) (r.map PyData.int) = true := he
    rw [eqv_ints, decide_eq_true_iff] at e2
    subst e2
    exact ha
  · intro h
    refine ⟨dTup r, List.mem_map.mpr ⟨r, h, rfl⟩, ?_⟩
    show PyData.eqvAll (r.map PyData.int) (r.map PyData.int) = true
    rw [eqv_ints]
    simp

theorem any_rowsB (T : List (List Int)) (r : List Int) : ((T.map dTup).any fun z => PyData.eqv z (dTup r)) = decide (r ∈ T) := by
  have h := any_rows T r
  rw [mem_rows] at h
  by_cases c : r ∈ T
  · rw [decide_eq_true c]
    exact h.mpr c
  · rw [decide_eq_false c]
    cases e : ((T.map dTup).any fun z => PyData.eqv z (dTup r)) with
    | false => rfl
    | true => exact absurd (h.mp e) c
/-- a row in a tuple of rows -/
def rInR (K : PySem.W.Frag) (neg : Bool) : R2 := fun x y H Q => ∃ (r : List Int) (T : List (List Int)), Rp K H x (dTup r) ∧ Rp K H y (.tuple (T.map dTup)) ∧ Q (.bl (if neg then !decide (r ∈ T) else decide (r ∈ T))) H
theorem inR {X : Cx} (K : PySem.W.Frag) (hu : X.A.units + 65 < cLine) (hK : X.K = K := by rfl) : OpR X (compareOp .In) (rInR K false) := by
  subst hK
  intro pn st σ H one many v u Q inv h1 h2 way
  obtain ⟨r, T, hd, he, q⟩ := way
  obtain ⟨as, r1⟩ := Dp.reads inv _ one v hd.dp h1
  obtain ⟨bs, r2⟩ := Dp.reads inv _ many u he.dp h2
  refine SeqAt.in_tuple_reads r2 r1 (SeqAt.canLay_of_shaped (shaped_rows T)) (SeqAt.canLay_of_shaped (shaped_row r)) (room_in_shaped (shaped_row r) hu) ⟨.bl _, H, inv, rfl, ?_⟩
  rw [any_rowsB]
  exact q
theorem notInR {X : Cx} (K : PySem.W.Frag) (hu : X.A.units + 65 < cLine) (hK : X.K = K := by rfl) : OpR X (compareOp .NotIn) (rInR K true) := by
  subst hK
  intro pn st σ H one many v u Q inv h1 h2 way
  obtain ⟨r, T, hd, he, q⟩ := way
  obtain ⟨as, r1⟩ := Dp.reads inv _ one v hd.dp h1
  obtain ⟨bs, r2⟩ := Dp.reads inv _ many u he.dp h2
  refine SeqAt.notIn_tuple_reads r2 r1 (SeqAt.canLay_of_shaped (shaped_rows T)) (SeqAt.canLay_of_shaped (shaped_row r)) (room_in_shaped (shaped_row r) hu) ⟨.bl _, H, inv, rfl, ?_⟩
  rw [any_rowsB]
  exact q
end LK
namespace LK
open PySem PySem.Spec PyProof.Rows L2
def risingT (T : List (List Int)) : Bool := ((List.range (T.length - 1)).map fun j => HT.lexLt (T.getD j []) (T.getD (j + 1) [])).all id
def isTies (n : Int) (rows : List (List Int)) : PyData → Bool
  | .tuple ds => ds.all (isTie n rows) && risingT (ds.map dInts)
  | _ => false
def toT : PyData → List (List Int)
  | .tuple ds => ds.map dInts
  | _ => []
def ledM (n : Int) (rows T : List (List Int)) : List Nat := (List.range n.toNat).map fun (x : Nat) => maskL (natI ((List.range n.toNat).filter fun (y : Nat) => ledB rows T x y))
open Classical in
noncomputable def acycB (ms : List Nat) : Bool := decide (Acyc ms)
open Classical in
theorem acycB_iff {ms : List Nat} : acycB ms = true ↔ Acyc ms := by
  unfold acycB
  exact ⟨fun h => of_decide_eq_true h, fun h => decide_eq_true h⟩
theorem acycB_not {ms : List Nat} (h : ¬ Acyc ms) : acycB ms = false := by
  cases e : acycB ms with
  | false => rfl
  | true => exact absurd (acycB_iff.mp e) h
noncomputable def isSorting (n : Int) (rows : List (List Int)) (d : PyData) : Bool := isTies n rows d && acycB (ledM n rows (toT d))
def spBBI (K : PySem.W.Frag) (g : Int → List (List Int) → PyData → Bool) : Sp := fun vs H Q _ => ∃ v u d n rows, vs = [v, u] ∧ Rp K H v (bookD n rows) ∧ Rp K H u d ∧ RowsIn n rows ∧ 0 ≤ n ∧ n ≤ 45 ∧ ∀ H', Same H H' → Q (.bl (g n rows d)) H'
def spRisingT (K : PySem.W.Frag) : Sp := fun vs H Q _ => ∃ a T, vs = [.ref a] ∧ Rp K H (.ref a) (.tuple (T.map dTup)) ∧ ∀ H', Same H H' → Q (.bl (risingT T)) H'
theorem ledM_length (n : Int) (rows T : List (List Int)) : (ledM n rows T).length = n.toNat := by unfold ledM; rw [List.length_map, List.length_range]
theorem led_in {n : Int} {rows T : List (List Int)} (hin : RowsIn n rows) {x y : Int} (h : ledB rows T x y = true) : (0 ≤ y ∧ y < n) ∧ (0 ≤ x ∧ x < n) := by
  unfold ledB at h
  rw [Bool.and_eq_true, Bool.and_eq_true] at h
  obtain ⟨r, hr, h1, h2⟩ := tied_mem h.1.2
  exact ⟨hin r hr y h2, hin r hr x h1⟩
theorem ledM_ok {n : Int} {rows T : List (List Int)} (hin : RowsIn n rows) : LedOk n rows T (ledM n rows T) := by
  refine ⟨ledM_length n rows T, fun x m hm y => ?_⟩
  unfold ledM at hm
  rw [List.getElem?_map] at hm
  have hx : x < n.toNat := by
    apply Classical.byContradiction
    intro z
    rw [List.getElem?_eq_none (by rw [List.length_range]; omega)] at hm
    cases hm
  rw [List.getElem?_range hx] at hm
  have hm := Option.some.inj hm
  subst hm
  rw [maskL_bit natI_nn]
  cases c : ledB rows T x y with
  | true =>
    refine decide_eq_true (natI_mem.mpr (List.mem_filter.mpr ⟨List.mem_range.mpr ?_, c⟩))
    have := led_in hin c
    omega
  | false =>
    refine decide_eq_false fun z => ?_
    have := (List.mem_filter.mp (natI_mem.mp z)).2
    rw [c] at this
    cases this
theorem led_eq {n : Int} {rows T : List (List Int)} {ms : List Nat} (hin : RowsIn n rows) (L : LedOk n rows T ms) : ms = ledM n rows T := by
  have L2 := ledM_ok (n := n) (T := T) hin
  apply List.ext_getElem?
  intro x
  by_cases hx : x < n.toNat
  · have h1 := List.getElem?_eq_getElem (l := ms) (i := x) (by rw [L.1]; exact hx)
    have h2 := List.getElem?_eq_getElem (l := ledM n rows T) (i := x) (by rw [L2.1]; exact hx)
    rw [h1, h2]
    congr 1
    apply Nat.eq_of_testBit_eq
    intro y
    rw [L.2 x _ h1 y, L2.2 x _ h2 y]
  · rw [List.getElem?_eq_none (by rw [L.1]; omega), List.getElem?_eq_none (by rw [L2.1]; omega)]
theorem edge_led {n : Int} {rows T : List (List Int)} (hin : RowsIn n rows) (x y : Nat) : edgeB (ledM n rows T) x y = (decide ((x : Int) < n) && ledB rows T x y) := by
  unfold edgeB
  by_cases hx : x < n.toNat
  · have h2 := List.getElem?_eq_getElem (l := ledM n rows T) (i := x) (by rw [ledM_length]; exact hx)
    have e : (ledM n rows T).getD x 0 = (ledM n rows T)[x]'(by rw [ledM_length]; exact hx) := by rw [List.getD_eq_getElem?_getD, h2]; rfl
    rw [e, (ledM_ok hin).2 x _ h2 y, decide_eq_true (by omega)]
    rfl
  · have e : (ledM n rows T).getD x 0 = 0 := by rw [List.getD_eq_getElem?_getD, List.getElem?_eq_none (by rw [ledM_length]; omega)]; rfl
    rw [e, Nat.zero_testBit, decide_eq_false (by omega)]
    rfl
theorem lex_pair (a b c d : Int) : HT.lexLt [a, b] [c, d] = if a = c then (if b = d then false else decide (b < d)) else decide (a < c) := rfl
/-- pairs that rise are unlike -/
theorem risingT_pw : ∀ (T : List (List Int)), (∀ t ∈ T, ∃ a b : Int, t = [a, b]) → risingT T = true → T.Pairwise fun s t => HT.lexLt s t = true
  | [], _, _ => .nil
  | [t], _, _ => List.pairwise_singleton _ _
  | s :: t :: T, h, hr => by
    have hr2 : HT.lexLt s t = true ∧ risingT (t :: T) = true := by
      unfold risingT at hr
      have e : (s :: t :: T).length - 1 = ((t :: T).length - 1) + 1 := by simp
      rw [e, range_succ_map, List.all_cons, Bool.and_eq_true] at hr
      exact hr
    have ih := risingT_pw (t :: T) (fun x hx => h x (by simp [hx])) hr2.2
    refine List.pairwise_cons.mpr ⟨fun u hu => ?_, ih⟩
    rcases List.mem_cons.mp hu with rfl | hu
    · exact hr2.1
    · have h2 := (List.pairwise_cons.mp ih).1 u hu
      obtain ⟨a, b, rfl⟩ := h s (by simp)
      obtain ⟨c, d, rfl⟩ := h t (by simp)
      obtain ⟨e, f, rfl⟩ := h u (by simp [hu])
      have h1 := hr2.1
      rw [lex_pair] at h1 h2 ⊢
      split at h1 <;> split at h2 <;> (try split at h1) <;> (try split at h2) <;> (try cases h1) <;> (try cases h2) <;> simp at h1 h2 ⊢ <;> (try split) <;> (try split) <;> omega
theorem lex_irrefl (a b : Int) : HT.lexLt [a, b] [a, b] = false := by rw [lex_pair]; simp
theorem isTie_in {n : Int} {rows : List (List Int)} {d : PyData} (h : isTie n rows d = true) : ∃ lo hi : Nat, d = dTup [(lo : Int), (hi : Int)] ∧ lo < hi ∧ (hi : Int) < n ∧ tiedB rows lo hi = true := by
  unfold isTie at h
  rw [Bool.and_eq_true, Bool.and_eq_true, decide_eq_true_eq] at h
  obtain ⟨⟨h1, h2⟩, h3⟩ := h
  unfold isLot at h1
  rw [Bool.and_eq_true] at h1
  have ed := areBelow_tup h1.1
  obtain ⟨a, b, e⟩ : ∃ a b, dInts d = [a, b] := by
    match hd : dInts d, h2 with
    | [a, b], _ => exact ⟨a, b, rfl⟩
  rw [e] at h1 h3 ed
  have hb : isBelow n (.int a) = true ∧ isBelow n (.int b) = true := by
    have := h1.1
    rw [ed] at this
    replace this : ([a, b].map PyData.int).all (isBelow n) = true := this
    simpa using this
  have h4 : a < b := by
    have := h1.2
    simpa [rising] using this
  have h5 : 0 ≤ a ∧ b < n := by
    have := hb.1
    have h6 := hb.2
    simp only [isBelow, decide_eq_true_eq] at this h6
    exact ⟨this.1, h6.2⟩
  refine ⟨a.toNat, b.toNat, ?_, by omega, by omega, ?_⟩
  · rw [ed, Int.toNat_of_nonneg h5.1, Int.toNat_of_nonneg (by omega)]
  · rw [Int.toNat_of_nonneg h5.1, Int.toNat_of_nonneg (by omega)]
    exact h3
theorem isTies_in {n : Int} {rows : List (List Int)} {d : PyData} (h : isTies n rows d = true) : d = .tuple ((toT d).map dTup) ∧ TiesIn n rows (toT d) := by
  cases d with
  | tuple ds =>
    unfold isTies at h
    rw [Bool.and_eq_true, List.all_eq_true] at h
    have hp : ∀ t ∈ ds.map dInts, ∃ lo hi : Nat, t = [(lo : Int), (hi : Int)] ∧ lo < hi ∧ (hi : Int) < n ∧ tiedB rows lo hi = true := by
      intro t ht
      obtain ⟨e, he, rfl⟩ := List.mem_map.mp ht
      obtain ⟨lo, hi, rfl, h2⟩ := isTie_in (h.1 e he)
      exact ⟨lo, hi, dInts_tup _, h2⟩
    refine ⟨?_, hp, ?_⟩
    · show PyData.tuple ds = .tuple ((ds.map dInts).map dTup)
      congr 1
      rw [List.map_map]
      symm
      have : ∀ e ∈ ds, (dTup ∘ dInts) e = id e := fun e he => by
        obtain ⟨lo, hi, rfl, h2⟩ := isTie_in (h.1 e he)
        show dTup (dInts _) = _
        rw [dInts_tup]
        rfl
      rw [List.map_congr_left this, List.map_id]
    · have := risingT_pw (ds.map dInts) (fun t ht => by obtain ⟨a, b, e, _⟩ := hp t ht; exact ⟨_, _, e⟩) h.2
      refine List.Pairwise.imp_of_mem ?_ this
      intro s t hs ht hst e
      subst e
      obtain ⟨a, b, rfl, _⟩ := hp s hs
      rw [lex_irrefl] at hst
      cases hst
  | _ => simp [isTies] at h
section
variable {P : Program} {w : World} {K : PySem.W.Frag} {mg : Str → Option Value} {base : Heap} {ad : Nat → Addr} {fd : Nat → FuncData}
theorem ok_is_risingT (T : Txt K mg ad fd) : FnOk P w K mg base CX0 1 (ad 4) (fd 4) ["things"] (spRisingT K) := by
  refine T.F_is_rising.ok sc_is_rising (fun vs H Q E h => ?_) (fun cdv A outer s H vs Q E hr h => ?_)
  · obtain ⟨a, TT, rfl, _⟩ := h
    rfl
  · obtain ⟨a, TT, rfl, h, k⟩ := h
    refine ⟨_, (pss_one (ps_ret (pe_callB (allR K) (by rfl) T.g_all (by decide +kernel) (pa_cons (pe_lc (own := [("k", 1)]) (g := gName 1) rfl sc_is_rising.nd (pi_range2 rfl T.g_range (pa_cons pe_int (pa_cons (pe_callB (lenS K) (by rfl) T.g_len (by decide +kernel) (pa_cons (pv 0) pa_nil)) pa_nil))) (blkOk_by (N := ["things", "k"]) (sc := defScope s_is_rising) (by decide +kernel)) (fun _ _ _ _ _ => (pg_name (i := 1) (x := "k") sc_is_rising.nd rfl (Or.inl rfl))) (fun _ _ _ _ _ => pts_nil) (fun _ _ _ _ _ => (pe_cmpR (ltT K (hu0 hr)) (pe_ix (ixT K) (pv 0) (pe_op op_sub (pv 1) pe_int) (fun _ _ => rfl)) (pe_ix (ixT K) (pv 0) (pv 1) (fun _ _ => rfl)) (nomark _)))) pa_nil)))), ?_⟩
    cases h with
    | @tup a xs ds s l r =>
    have hl : xs.length = TT.length := by rw [r.length, List.length_map]
    have ez : ((xs.length : Int) - 1).toNat = TT.length - 1 := by omega
    refine ⟨_, rfl, _, _, rfl, .inr s, _, _, rfl, ⟨by decide, by decide, by omega, by omega⟩, fun D hD => ?_⟩
    rw [ez]
    refine lcR (K := K) (lo := 1) (n := TT.length - 1) (fun _ => true) (fun j => .bool (HT.lexLt (TT.getD j []) (TT.getD (j + 1) []))) hD (by omega) (fun _ _ _ => rfl) (fun i H1 hi s1 Q1 Q2 k1 k2 => ?_) (fun ys H1 s1 hy r3 => ?_)
    · refine ⟨rfl, ?_⟩
      obtain ⟨v1, g1, r1⟩ := r.getD (i := i) (d := dTup (TT.getD i [])) (by rw [List.getElem?_map, List.getD_eq_getElem?_getD, List.getElem?_eq_getElem (by omega)]; rfl)
      obtain ⟨v2, g2, r2⟩ := r.getD (i := i + 1) (d := dTup (TT.getD (i + 1) [])) (by rw [List.getElem?_map, List.getD_eq_getElem?_getD, List.getElem?_eq_getElem (by omega)]; rfl)
      obtain ⟨a1, rfl, t1⟩ := r1.tupI
      obtain ⟨a2, rfl, t2⟩ := r2.tupI
      refine ⟨_, rfl, _, rfl, _, _, rfl, rfl, _, _, _, _, rfl, rfl, (seqT s1 s), at_of (j := i) (by omega) g1, _, rfl, _, rfl, _, _, _, _, rfl, rfl, (seqT s1 s), at_of (j := i + 1) (by omega) g2, _, _, _, _, rfl, rfl, (t1.same s1).1, (t2.same s1).1, ?_⟩
      exact k1 rfl _ _ (Same.refl _) (.bl _)
    · rw [filter_true] at r3
      have e := RpAll.ofBools (bs := (List.range (TT.length - 1)).map fun j => HT.lexLt (TT.getD j []) (TT.getD (j + 1) [])) (by rw [List.map_map]; exact r3)
      subst e
      refine ⟨_, _, rfl, SqL.of hy, ?_⟩
      exact k _ s1
end
end LK
namespace LK
open PySem PySem.Spec PyProof.Rows L2
section
variable {P : Program} {w : World} {K : PySem.W.Frag} {mg : Str → Option Value} {base : Heap} {ad : Nat → Addr} {fd : Nat → FuncData}
theorem ok_is_ties (T : Txt K mg ad fd) : FnOk P w K mg base CX0 7 (ad 41) (fd 41) ["book", "thing"] (spBB K isTies) := by
  refine T.F_is_ties.ok sc_is_ties (fun vs H Q E h => ?_) (fun cdv A outer s H vs Q E hr h => ?_)
  · obtain ⟨v, u, d, n, rows, rfl, _⟩ := h
    rfl
  · obtain ⟨v, u, d, n, rows, rfl, h, hu, k⟩ := h
    refine ⟨_, (pss_one (ps_ret (pe_and (pe_callB (isiR K) (by rfl) T.g_isinstance (by decide +kernel) (pa_cons (pv 1) (pa_cons (pe_bltn (v := .ty "tuple") (by rfl) T.g_tuple (by decide +kernel) rfl) pa_nil))) (pe_and (pe_callB (allR K) (by rfl) T.g_all (by decide +kernel) (pa_cons (pe_lc (own := [("tie", 2)]) (g := gName 2) rfl sc_is_ties.nd (piT K (pv 1)) (blkOk_by (N := ["book", "thing", "tie"]) (sc := defScope s_is_ties) (by decide +kernel)) (fun _ _ _ _ _ => (pg_name (i := 2) (x := "tie") sc_is_ties.nd rfl (Or.inl rfl))) (fun _ _ _ _ _ => pts_nil) (fun _ _ _ _ _ => (pe_call (ok_is_tie T) (hr.mono (by decide)) rfl T.m_is_tie T.F_is_tie.kp (b_is_tie T) .nil pass0 (pa_cons (pv 0) (pa_cons (pv 2) pa_nil))))) pa_nil)) (pe_one (pe_call (ok_is_risingT T) (hr.mono (by decide)) rfl T.m_is_rising T.F_is_rising.kp (b_is_rising T) .nil pass0 (pa_cons (pv 1) pa_nil))))))), ?_⟩
    have k' : ∀ b H', Same H H' → b = isTies n rows d → Q (.bl b) H' := fun b H' s e => by rw [e]; exact k _ s
    refine ⟨u, rfl, u, .ty "tuple", _, _, _, rfl, .ty _, hu.ty, isi_tuple hu, _, rfl, ?_⟩
    have hu0 := hu
    cases hu with
    | @tup a xs ds st l r =>
      refine iteT ⟨_, rfl, a, rfl, ⟨_, st⟩, fun D hD => ?_⟩
      refine lcT (K := K) (xs := xs) (fun _ => true) (fun j => .bool (isTie n rows (ds.getD j .none))) hD st l (fun _ _ _ => rfl) (fun i x H1 hi s1 Q1 Q2 k1 k2 => ?_) (fun ys H1 s1 hy r1 => ?_)
      · obtain ⟨d, hd, rd⟩ := r.get hi
        have ed : ds.getD i .none = d := by rw [List.getD_eq_getElem?_getD, hd]; rfl
        rw [ed] at k1
        exact ⟨rfl, _, rfl, _, rfl, v, x, d, n, rows, rfl, h.same s1, rd.same s1, fun H2 s2 => k1 rfl _ _ s2 (.bl _)⟩
      · rw [filter_true] at r1
        have e := RpAll.ofBools (bs := (List.range xs.length).map fun j => isTie n rows (ds.getD j .none)) (by rw [List.map_map]; exact r1)
        subst e
        refine ⟨_, _, rfl, SqL.of hy, _, rfl, ?_⟩
        rw [r.length, all_range (isTie n rows) .none ds]
        cases c : ds.all (isTie n rows) with
        | false => exact iteF (k' _ _ s1 (by simp [isTies, c]))
        | true =>
          have hall := List.all_eq_true.mp c
          have ed : ds = (ds.map dInts).map dTup := by
            rw [List.map_map]
            symm
            have : ∀ e ∈ ds, (dTup ∘ dInts) e = id e := fun e he => by
              obtain ⟨lo, hi, rfl, h2⟩ := isTie_in (hall e he)
              show dTup (dInts _) = _
              rw [dInts_tup]
              rfl
            rw [List.map_congr_left this, List.map_id]
          refine iteT ⟨_, rfl, a, ds.map dInts, rfl, ?_, fun H2 s2 => k' _ _ (s1.trans s2) (by simp only [isTies, c, Bool.true_and])⟩
          rw [← ed]
          exact hu0.same s1
    | _ => exact iteF (k' _ _ (Same.refl _) rfl)
theorem ok_is_sorting (T : Txt K mg ad fd) : FnOk P w K mg base CX0 8 (ad 42) (fd 42) ["book", "thing"] (spBBI K isSorting) := by
  refine T.F_is_sorting.ok sc_is_sorting (fun vs H Q E h => ?_) (fun cdv A outer s H vs Q E hr h => ?_)
  · obtain ⟨v, u, d, n, rows, rfl, _⟩ := h
    rfl
  · obtain ⟨v, u, d, n, rows, rfl, h, hu, hin, h0, h1, k⟩ := h
    refine ⟨_, (pss_one (ps_ret (pe_and (pe_call (ok_is_ties T) (hr.mono (by decide)) rfl T.m_is_ties T.F_is_ties.kp (b_is_ties T) .nil pass0 (pa_cons (pv 0) (pa_cons (pv 1) pa_nil))) (pe_one (pe_cmpR op_isN (pe_call (ok_round_in T) (hr.mono (by decide)) rfl T.m_round_in T.F_round_in.kp (b_round_in T) .nil pass0 (pa_cons (pe_call (ok_leading_masks T) (hr.mono (by decide)) rfl T.m_leading_masks T.F_leading_masks.kp (b_leading_masks T) .nil pass0 (pa_cons (pv 0) (pa_cons (pv 1) pa_nil))) pa_nil)) pe_non (nomark _)))))), ?_⟩
    have k' : ∀ b H', Same H H' → b = isSorting n rows d → Q (.bl b) H' := fun b H' s e => by rw [e]; exact k _ s
    refine ⟨_, rfl, _, rfl, v, u, d, n, rows, rfl, h, hu, fun H1 s1 => ⟨_, rfl, ?_⟩⟩
    cases c : isTies n rows d with
    | false => exact iteF (k' _ _ s1 (by simp [isSorting, c]))
    | true =>
      obtain ⟨ed, hT⟩ := isTies_in c
      have hu1 := hu.same s1
      rw [ed] at hu1
      refine iteT ⟨_, rfl, _, rfl, v, u, n, rows, toT d, rfl, h.same s1, hu1, hin, h0, h1, hT, fun p ms H2 s2 hp hm L => ?_⟩
      have em := led_eq hin L
      subst em
      refine ⟨p, _, rfl, SqL.of hm, by rw [ledM_length]; omega, fun ha H3 s3 => ?_, fun a ws H3 s3 ta hr hna => ?_⟩
      · refine ⟨rfl, ?_⟩
        refine k' _ _ ((s1.trans s2).trans s3) ?_
        unfold isSorting
        rw [c, acycB_iff.mpr ha, decide_eq_true rfl]
        rfl
      · refine ⟨rfl, ?_⟩
        refine k' _ _ ((s1.trans s2).trans s3) ?_
        unfold isSorting
        rw [c, acycB_not hna, decide_eq_false (fun z => by cases z)]
        rfl
end
end LK
/-! list(reversed(range(n))) -/
namespace LK
open PySem PySem.Spec PyProof.Rows L2
section
variable {prog : Program} {w : World} {A : Around} {E : Value → Shared → Prop} {s : Shared}
theorem call_rit_hint {it : Addr} {x c : Int} {n : Nat} {Q : Value → Shared → Prop} (hit : IsRangeIter s.heap it x n c)
    (h : ∀ t tk, Q (.int n t) { s with toks := tk }) : wpAny (model prog w) A (call (.builtin "range_iterator.__length_hint__") [.ref it]) Q E s := by
  have hT : s.TypeIs (.ref it) "range_iterator" := ⟨_, hit, rfl⟩
  refine wpAny_call_entry F.slot_range_iterator_length_hint hT F.entry_range_iterator_length_hint ?_ (F.args_range_iterator_length_hint_1 _)
  obtain ⟨hp, g, d, tk, os⟩ := s
  have hit2 : Heap.get? hp it = some _ := hit
  wp_walk using AutoSeq1.wpAny_loadPart' hit2
  exact ⟨_, rfl, h _ _⟩
theorem hint_rit {it : Addr} {x c : Int} {n : Nat} {Q : Bool → Shared → Prop} (hit : IsRangeIter s.heap it x n c) (hlen : n ≤ 2 ^ 24)
    (h : ∀ tk, Q false { s with toks := tk }) : wpAny (model prog w) A (Builtin.List.listLengthHint (.ref it)) Q E s := by
  have hT : s.TypeIs (.ref it) "range_iterator" := ⟨_, hit, rfl⟩
  unfold Builtin.List.listLengthHint
  refine wpAny_bind (wpAny_specialOf hT F.nolen_ra ?_)
  show wpAny _ A (specialOf (Value.ref it) (Str.ofString "__length_hint__") >>= _) _ _ _
  refine wpAny_bind (wpAny_specialOf hT F.hint_ra ?_)
  (generalize hid : ("range_iterator.__length_hint__" : String) = id0; (fail_if_success (clear hid id0)); wp_delta; rw [show splitId id0 = some ("range_iterator", "__length_hint__") from by subst hid; decide +kernel]; subst hid)
  refine wpAny_bind (wpAny_isInstance (b := true) hT (by rw [isSubtype_type]; kernel_rfl) ?_)
  show wpAny _ A (call (.builtin "range_iterator.__length_hint__") [.ref it] >>= _) _ _ _
  refine wpAny_bind (call_rit_hint hit fun t tk => ?_)
  refine wpAny_bind (m := asInt? (.int n t)) (wpAny_pure ?_)
  dsimp only
  have hk : Builtin.List.listTooLong (Int.toNat ((n : Nat) : Int)) = false := by simp [Builtin.List.listTooLong, sizeLine]; omega
  rw [if_neg (by rw [hk]; decide)]
  exact wpAny_pure (h tk)
theorem extend_rit {R : Result → Shared → Prop} {r : Addr} {a c : Int} {n : Nat} (hh : A.handled = none) (hr : IsRangeIter s.heap r a n c) (hlen : n ≤ 2 ^ 24) (S : Addr) (res : Value) (c₀ : Nat) (hS : s.heap.get? S = some { cls := .type "list", data := .seq #[] c₀ })
    (hR : ∀ h' tk acc' c', (∀ b o, b ≠ S → b ≠ r → s.heap.get? b = some o → h'.get? b = some o) → h'.get? S = some { cls := .type "list", dict := none, data := .seq acc' c', slots := #[] } →
      ItemsOf (fun i v => ∃ t, v = .int (a + i * c) t) acc' n → R (.ok (.ret res)) { s with heap := h', toks := tk }) :
    wpAny (model prog w) A.in1 (Builtin.List.listExtendWith (.ref S) (.ref r) res)
      (fun fin s' => match fin with | .done f => R (.ok f) s' | .again c' => c'.quiet = true ∧ codeAny (model prog w) A c' R s') (fun e s' => R (.error e) s') s := by
  have hSr : S ≠ r := fun e => by rw [e] at hS; have hr2 : s.heap.get? r = some _ := hr; rw [hr2] at hS; simp at hS
  have hSf : S ∉ [r] := fun hm => hSr (List.mem_singleton.mp hm)
  have W := (Walks.range (prog := prog) (w := w) (A := A.in1) hh r a c n).toS
  unfold Builtin.List.listExtendWith
  refine wpAny_bind (wpAny_typeOf (T := "range_iterator") ⟨_, hr, rfl⟩ ?_)
  have h1 : Builtin.List.listSameRef (.ref S) (.ref r) = false := by simp [Builtin.List.listSameRef, hSr]
  have h2 : (Value.type "range_iterator" == Value.type "list") = false := by decide
  have h3 : (Value.type "range_iterator" == Value.type "tuple") = false := by decide
  simp only [h1, h2, h3, Bool.or_false, Bool.false_eq_true, if_false]
  refine wpAny_bind (wpAny_pyIter_rangeiter hr ?_)
  refine wpAny_bind (wpAny_holding (hint_rit hr hlen fun tk => ?_))
  refine wpAny_ite_split (fun h => absurd h (by decide)) (fun _ => ?_)
  refine wpAny_pure ⟨plainId_quiet F.plain_extend_loop _, ?_⟩
  have e1 : a + ((0 : Nat) : Int) * c = a := by simp
  have e2 : ((n : Nat) : Int) - ((0 : Nat) : Int) = n := by simp
  refine codeAny_extend_loopS W (by rw [sizeLine_eq]; omega) S hSf res n 0 _ #[] c₀ rfl (Nat.zero_le _) (by rw [e1, e2]; exact hr) hS (ItemsOf.nil _) fun s' acc' c' hm hS' hacc => ?_
  rw [Moved.eq_with hm]
  refine hR s'.heap s'.toks acc' c' (fun b o hb hb2 e => hm.heap b o (fun hmem => ?_) e) hS' hacc
  rcases List.mem_cons.mp hmem with e' | hmem
  · exact hb e'
  · exact hb2 (List.mem_singleton.mp hmem)
theorem list_init_rit {R : Result → Shared → Prop} {r : Addr} {a c : Int} {n : Nat} (hh : A.handled = none) (hr : IsRangeIter s.heap r a n c) (hlen : n ≤ 2 ^ 24) (S : Addr) (hS : s.heap.get? S = some { cls := .type "list", data := .seq #[] })
    (hR : ∀ h' tk acc' c', (∀ b o, b ≠ S → b ≠ r → s.heap.get? b = some o → h'.get? b = some o) → h'.get? S = some { cls := .type "list", dict := none, data := .seq acc' c', slots := #[] } →
      ItemsOf (fun i v => ∃ t, v = .int (a + i * c) t) acc' n → R (.ok (.ret .none)) { s with heap := h', toks := tk }) :
    wpAny (model prog w) A.in1 (Builtin.«list.__init__» ⟨[.ref S, .ref r], []⟩)
      (fun fin s' => match fin with | .done f => R (.ok f) s' | .again c' => c'.quiet = true ∧ codeAny (model prog w) A c' R s') (fun e s' => R (.error e) s') s := by
  have hSr : S ≠ r := fun e => by rw [e] at hS; have hr2 : s.heap.get? r = some _ := hr; rw [hr2] at hS; simp at hS
  show wpAny _ _ (do let old ← Builtin.List.listItems (.ref S); Builtin.List.listUpdate (.ref S) (fun _ => #[]); letGo old.toList.reverse; Builtin.List.listExtendWith (.ref S) (.ref r) .none) _ _ s
  refine wpAny_bind ?_
  unfold Builtin.List.listItems
  refine wpAny_bind (wpAny_seqItems hS rfl (wpAny_pure ?_))
  show wpAny _ _ (updateSeq S (fun _ => #[]) >>= fun _ => letGo (#[] : Array Value).toList.reverse >>= fun _ => Builtin.List.listExtendWith (.ref S) (.ref r) .none) _ _ s
  refine wpAny_bind (wpAny_updateSeq hS rfl ?_)
  have hS₂ := Heap.get?_update_self (Obj.mapSeq (fun _ => (#[] : Array Value))) hS rfl
  have oth : ∀ b o, b ≠ S → s.heap.get? b = some o → (s.heap.update S (Obj.mapSeq (fun _ => (#[] : Array Value)))).get? b = some o :=
    fun b o hb e => (Heap.get?_update_other _ _ (Ne.symm hb)).trans e
  refine wpAny_bind (wpAny_letGo ?_)
  refine extend_rit hh (oth r _ (Ne.symm hSr) hr) hlen S .none _ hS₂ fun h' tk acc' c' hk hS' hacc => ?_
  exact hR h' tk acc' c' (fun b o hb hb2 e => hk b o hb hb2 (oth b o hb e)) hS' hacc
theorem call_list_rit {Q : Value → Shared → Prop} {r : Addr} {a c : Int} {n : Nat} (hh : A.handled = none) (hr : IsRangeIter s.heap r a n c) (hlen : n ≤ 2 ^ 24)
    (hQ : ∀ h' tk acc' c', (∀ b o, b ≠ r → s.heap.get? b = some o → h'.get? b = some o) →
      h'.get? s.heap.objs.size = some { cls := .type "list", dict := none, data := .seq acc' c', slots := #[] } → ItemsOf (fun i v => ∃ t, v = .int (a + i * c) t) acc' n → Q (.ref s.heap.objs.size) { s with heap := h', toks := tk }) :
    wpAny (model prog w) A (call (.type "list") [.ref r]) Q E s := by
  refine callType_codes (Q₁ := fun obj s₁ => obj = .ref s.heap.objs.size ∧ s₁ = { s with heap := s.heap.push { cls := .type "list", data := .seq #[] } }) F.called_list (F.typeCall_list_1 _) F.entry_list_init
    (code_list_new _ ⟨rfl, rfl⟩) fun obj s₁ h₁ => ?_
  obtain ⟨rfl, rfl⟩ := h₁
  have hS : (s.heap.push { cls := .type "list", data := .seq #[] }).get? s.heap.objs.size = some { cls := .type "list", data := .seq #[] } := Heap.get?_push_size _ rfl
  refine ⟨⟨_, hS, rfl⟩, F.args_list_init_2 _ _, list_init_rit (A := A.in1) hh (Heap.get?_push_of_some _ hr) hlen _ hS fun h' tk acc' c' hk hS' hacc => ?_⟩
  exact ⟨rfl, hQ h' tk acc' c' (fun b o hb e => hk b o (Nat.ne_of_lt (Heap.lt_size e)) hb (Heap.get?_push_of_some _ e)) hS' hacc⟩
end
/-- the ints b - 1, b - 2 .. a -/
def rgR (a b : Int) : List V := (List.range (b - a).toNat).map fun i => V.int (b - 1 - (i : Nat))
def tLstRev (te : L2.St → Hp → (Int → Int → Hp → Prop) → Prop) : TE := fun σ H Q => te σ H fun a b H1 => RgOk a b ∧ ∀ q, H1 q = none → Q (.ref q) (upd H1 q (.lst (rgR a b)))
theorem vals_rgR {a b : Int} {acc : Array Value} (h : ItemsOf (fun i v => ∃ t, v = .int (a + (((b - a).toNat : Nat) : Int) - 1 + i * (-1)) t) acc (b - a).toNat) : Vals (rgR a b) acc.toList := by
  have e : acc.toList.length = (b - a).toNat := by rw [Array.length_toList]; exact h.1
  unfold rgR
  rw [← e]
  refine vals_of_get acc.toList _ fun j u hj => ?_
  obtain ⟨t, rfl⟩ := h.2 j u (by rw [← hj, Array.getElem?_toList])
  have hj2 : j < acc.toList.length := (List.getElem?_eq_some_iff.mp hj).1
  refine ⟨t, ?_⟩
  congr 1
  omega
theorem pe_listRev {X : Cx} {e : Expr} {te : L2.St → Hp → (Int → Int → Hp → Prop) → Prop} {p p2 pos pos2 : Pos} (hc : X.calm = true) (hg : Gl X "list") (hm : X.mg "list" = none) (hg2 : Gl X "reversed") (hm2 : X.mg "reversed" = none) (he : PRg X e te)
    (na : starEach [e] X.env = (false, eval e X.env) :: starEach [] X.env := by rfl)
    (nb : starEach [.Call (.Name "reversed" p2) [e] [] pos2] X.env = (false, eval (.Call (.Name "reversed" p2) [e] [] pos2) X.env) :: starEach [] X.env := by rfl) :
    PE X (.Call (.Name "list" p) [.Call (.Name "reversed" p2) [e] [] pos2] [] pos) (tLstRev te) := by
  refine ⟨fun pins s σ H Q I h => ?_⟩
  refine Call_ (ld_blt I hg hm boot_list (PyProof.Rows.callWith_type1 (args_cons (Call_ (ld_blt I hg2 hm2 PyProof.Rows.boot_reversed (PyProof.Rows.callWith_type1 (args_cons (thn (he pins s σ H _ I h) fun u s1 hx => args_nil ?_) na) na rfl))) nb) nb))
  obtain ⟨r, a, b, t, w1, v, H1, eu, hr, I1, ⟨b1, b2, b3, b4, b5⟩, q⟩ := hx
  subst eu
  have hn : Builtin.Range.rangeSize a b 1 = (((b - a).toNat : Nat) : Int) := rangeSize_nat a b
  refine call_reversed_range hr (smallRev_one b1 b2 b3 b4) ?_
  refine args_nil ?_
  have hz : (s1.heap.push (rngRevObj a b 1)).objs.size = s1.heap.objs.size + 1 := Heap.size_push ..
  have hit : IsRangeIter (s1.heap.push (rngRevObj a b 1)) s1.heap.objs.size (a + (((b - a).toNat : Nat) : Int) - 1) (((b - a).toNat : Nat) : Int) (-1) := by
    have e1 : a + (((b - a).toNat : Nat) : Int) - 1 = a + (Builtin.Range.rangeSize a b 1 - 1) * 1 := by rw [hn]; omega
    rw [e1, ← hn]
    exact Heap.get?_push_size _ rfl
  refine call_list_rit (s := { s1 with heap := s1.heap.push (rngRevObj a b 1) }) (I1.ok.hd hc) hit b5 fun h' tk acc c' hk e' hi => ?_
  have hk2 : ∀ b0 o, s1.heap.get? b0 = some o → h'.get? b0 = some o := fun b0 o e => hk b0 o (Nat.ne_of_lt (Heap.lt_size e)) (Heap.get?_push_of_some _ e)
  have hD : s1.heap.objs.size ≤ (s1.heap.push (rngRevObj a b 1)).objs.size := by rw [hz]; exact Nat.le_succ _
  refine ⟨.ref (s1.heap.push (rngRevObj a b 1)).objs.size, upd H1 (s1.heap.push (rngRevObj a b 1)).objs.size (.lst (rgR a b)), I1.laid hk2 hD (show ObjOk X.prog X.w _ _ _ (.lst (rgR a b)) from ⟨?_, acc.toList, c', vals_rgR hi, ?_⟩), rfl, q _ (I1.hok.fresh hD)⟩
  · have : (rgR a b).length = (b - a).toNat := by unfold rgR; rw [List.length_map, List.length_range]
    rw [this, sizeLine_eq]; omega
  · rw [Array.toArray_toList]; exact e'
end LK
namespace LK
open PySem PySem.Spec PyProof.Rows L2
def spRenum (K : PySem.W.Frag) : Sp := fun vs H Q _ => ∃ v a n rows line, vs = [v, .ref a] ∧ Rp K H v (bookD n rows) ∧ (SqL K H a (line.map V.int) ∨ SqT K H a (line.map V.int)) ∧ line.length ≤ 1000 ∧ line.Nodup ∧ (∀ r ∈ rows, ∀ x ∈ r, x ∈ line) ∧
  ∀ u H', Same H H' → Rp K H' u (bookD n (renum line rows)) → Q u H'
section
variable {P : Program} {w : World} {K : PySem.W.Frag} {mg : Str → Option Value} {base : Heap} {ad : Nat → Addr} {fd : Nat → FuncData}
theorem ok_renumbered (T : Txt K mg ad fd) : FnOk P w K mg base CX0 1 (ad 23) (fd 23) ["book", "line"] (spRenum K) := by
  refine T.F_renumbered.ok sc_renumbered (fun vs H Q E h => ?_) (fun cdv A outer s H vs Q E hr h => ?_)
  · obtain ⟨v, a, n, rows, line, rfl, _⟩ := h
    rfl
  · obtain ⟨v, a, n, rows, line, rfl, h, hl, hz, nd, hin, k⟩ := h
    obtain ⟨b, L, xs, rfl, hb, hL, hxz, hr2⟩ := rp_book h
    have lx : xs.length = rows.length := by rw [hr2.length, List.length_map]
    refine ⟨_, (pss_cons (ps_set (i := 2) sc_renumbered.nd rfl (Or.inr rfl) (pe_dc (own := [("k", 3), ("thing", 4)]) (g := gTup K 2 (gCons (gName 3) (gCons (gName 4) gNil))) rfl sc_renumbered.nd (pi_enumA (K := K) rfl T.g_enumerate (pa_cons (pv 1) pa_nil)) (blkOk_by (N := ["book", "line", "numbers", "k", "thing", "things"]) (sc := defScope s_renumbered) (by decide +kernel)) (fun _ _ _ _ _ => (pgT K (n := 2) rfl (pgs_cons (pg_name (i := 3) (x := "k") sc_renumbered.nd rfl (Or.inl rfl)) (pgs_cons (pg_name (i := 4) (x := "thing") sc_renumbered.nd rfl (Or.inl rfl)) pgs_nil)))) (fun _ _ _ _ _ => pts_nil) (fun _ _ _ _ _ => (pv 4)) (fun _ _ _ _ _ => (pv 3))))
  (pss_one (ps_ret (pe_tup (pa_cons (pe_ix (ixT K) (pv 0) pe_int (fun _ _ => rfl)) (pa_cons (pe_callTy (tupOf K) (by rfl) T.g_tuple (by decide +kernel) (pa_cons (pe_lc (own := [("things", 5)]) (g := gName 5) rfl sc_renumbered.nd (piT K (pe_ix (ixT K) (pv 0) pe_int (fun _ _ => rfl))) (blkOk_by (N := ["book", "line", "numbers", "k", "thing", "things"]) (sc := defScope s_renumbered) (by decide +kernel)) (fun _ _ _ _ _ => (pg_name (i := 5) (x := "things") sc_renumbered.nd rfl (Or.inl rfl))) (fun _ _ _ _ _ => pts_nil) (fun _ _ _ _ _ => (pe_callTy (tupOf K) (by rfl) T.g_tuple (by decide +kernel) (pa_cons (pe_callB (srtI K) (by rfl) T.g_sorted (by decide +kernel) (pa_cons (pe_lc (own := [("thing", 4)]) (g := gName 4) rfl sc_renumbered.nd (piT K (pv 5)) (blkOk_by (N := ["book", "line", "numbers", "k", "thing", "things"]) (sc := { kind := PySem.ScopeKind.function, names := [ (PySem.Str.ofString ".0", PySem.NameKind.local), (PySem.Str.ofString "things", PySem.NameKind.local), (PySem.Str.ofString "tuple", PySem.NameKind.globalImplicit), (PySem.Str.ofString "sorted", PySem.NameKind.globalImplicit), (PySem.Str.ofString "numbers", PySem.NameKind.cell)], isGenerator := false, isCoroutine := false, more := [] : PySem.Scope }) (by decide +kernel)) (fun _ _ _ _ _ => (pg_name (i := 4) (x := "thing") sc_renumbered.nd rfl (Or.inl rfl))) (fun _ _ _ _ _ => pts_nil) (fun _ _ _ _ _ => (pe_dget (hu_of hr) (pv 2) (pv 4) (fun _ _ => rfl)))) pa_nil)) pa_nil)))) pa_nil)) pa_nil)))))), ?_⟩
    refine ⟨_, rfl, a, line.map V.int, rfl, ?_⟩
    rcases hl with hl | hl
    · refine .inl ⟨hl, fun D hD => dc_enum (K := K) (a := a) (line := line) hD hz nd _ (.inl ⟨rfl, hl⟩) (fun i x TT H1 Q0 hx hT s1 _ Q1 q1 => ⟨TT, _, rfl, SqT.of upd_same, rfl, _, _, rfl, _, _, rfl, rfl, rfl, rfl, _, rfl, _, rfl, q1⟩) (fun _ _ _ _ hq h => hq _ _ h)
        (fun v σ1 H2 Q0 Q1 hq ⟨z1, z2, z3, z4, z5, z6, z7, z8, z9, z10, z11, z12, z13⟩ => ⟨z1, z2, z3, z4, z5, z6, z7, z8, z9, z10, z11, z12, hq _ _ z13⟩) (fun kvs H1 s1 hk dk => ?_)⟩
      refine ⟨_, rfl, _, _, _, _, rfl, rfl, seqT s1 hb, rfl, _, rfl, _, _, _, _, rfl, rfl, seqT s1 hb, rfl, L, rfl, ⟨_, seqT s1 hL⟩, fun D2 hD2 => ?_⟩
      refine lcT (K := K) (xs := xs) (fun _ => true) (fun j => dTup (srt ((rows.getD j []).map fun x => ((line.idxOf x : Nat) : Int)))) hD2 (seqT s1 hL) hxz (fun j _ _ => noL_dTup _) (fun i v H2 hi s2 Q1 Q2 k1 k2 => ?_) (fun ys H2 s2 hy r2 => ?_)
      · obtain ⟨ns, a2, hn, rfl, t⟩ := hr2.row hi
        have t := t.same (s1.trans s2)
        have hmem := hin ns (List.mem_of_getElem? hn)
        have en : rows.getD i [] = ns := by rw [List.getD_eq_getElem?_getD, hn]; rfl
        rw [en] at k1
        refine ⟨rfl, _, rfl, a2, rfl, ⟨_, t.1⟩, fun D3 hD3 => ?_⟩
        refine lcT (K := K) (xs := ns.map V.int) (fun _ => true) (fun j => .int ((line.idxOf (ns.getD j 0) : Nat) : Int)) hD3 t.1 (by rw [List.length_map]; exact t.2) (fun _ _ _ => rfl) (fun j v H3 hj s3 Q3 Q4 k3 k4 => ?_) (fun zs H3 s3 hz3 r3 => ?_)
        · have hl3 : j < ns.length := by
            have := (List.getElem?_eq_some_iff.mp hj).1
            simpa using this
          have ev : v = .int (ns.getD j 0) := by
            rw [mapD hl3] at hj
            exact (Option.some.inj hj).symm
          subst ev
          have hm : ns.getD j 0 ∈ line := by
            rw [List.getD_eq_getElem?_getD, List.getElem?_eq_getElem hl3]
            exact hmem _ (List.getElem_mem hl3)
          have hk3 := s3 _ _ (s2 _ _ hk)
          have hv : valV kvs (Sum.inl (ns.getD j 0)) = some (V.int (line.idxOf (ns.getD j 0) : Nat)) := by
            rw [dk.2, List.take_length, if_pos hm]
          exact ⟨rfl, _, rfl, _, rfl, _, _, rfl, .inl ⟨kvs, Sum.inl (ns.getD j 0), .inl hk3, rfl, hv.symm⟩, k3 rfl _ _ (Same.refl _) (.int _)⟩
        · rw [filter_true] at r3
          have ez : (List.range (ns.map V.int).length).map (fun j => PyData.int ((line.idxOf (ns.getD j 0) : Nat) : Int)) = (ns.map fun x => ((line.idxOf x : Nat) : Int)).map PyData.int := by
            rw [List.length_map, List.map_map]
            exact map_range (fun x => PyData.int ((line.idxOf x : Nat) : Int)) 0 ns
          rw [ez] at r3
          have := r3.ofInts
          subst this
          refine ⟨D3, _, rfl, SqL.of hz3, fun ns' q pm pw hq => ?_⟩
          have en2 := srt_eq pm pw
          subst en2
          dsimp only [tNil]
          refine tupL_use (SqL.of upd_same) fun p H4 s4 hp => ?_
          exact k1 rfl _ _ ((s3.trans (same_upd hq)).trans s4) (TupI.rp ⟨hp, by rw [srt_length, List.length_map]; exact t.2⟩)
      · rw [filter_true] at r2
        have ez : (List.range xs.length).map (fun j => dTup (srt ((rows.getD j []).map fun x => ((line.idxOf x : Nat) : Int)))) = (renum line rows).map dTup := by
          rw [lx]
          unfold renum
          rw [List.map_map]
          exact map_range (fun r : List Int => dTup (srt (r.map fun x => ((line.idxOf x : Nat) : Int)))) [] rows
        rw [ez] at r2
        have ly : ys.length ≤ 1000 := by
          rw [r2.length, List.length_map]
          unfold renum
          rw [List.length_map]
          omega
        dsimp only [tNil]
        refine tupL_use (SqL.of hy) fun p H4 s4 hp => ⟨(by show 2 ≤ sizeLine; decide), fun z hz4 => ?_⟩
        exact k _ _ (((s1.trans s2).trans s4).trans (same_upd hz4)) (rp_bookNew hp ly (r2.same s4) hz4)
    · refine .inr ⟨hl, fun D hD => dc_enum (K := K) (a := a) (line := line) hD hz nd _ (.inr ⟨rfl, hl⟩) (fun i x TT H1 Q0 hx hT s1 _ Q1 q1 => ⟨TT, _, rfl, SqT.of upd_same, rfl, _, _, rfl, _, _, rfl, rfl, rfl, rfl, _, rfl, _, rfl, q1⟩) (fun _ _ _ _ hq h => hq _ _ h)
        (fun v σ1 H2 Q0 Q1 hq ⟨z1, z2, z3, z4, z5, z6, z7, z8, z9, z10, z11, z12, z13⟩ => ⟨z1, z2, z3, z4, z5, z6, z7, z8, z9, z10, z11, z12, hq _ _ z13⟩) (fun kvs H1 s1 hk dk => ?_)⟩
      refine ⟨_, rfl, _, _, _, _, rfl, rfl, seqT s1 hb, rfl, _, rfl, _, _, _, _, rfl, rfl, seqT s1 hb, rfl, L, rfl, ⟨_, seqT s1 hL⟩, fun D2 hD2 => ?_⟩
      refine lcT (K := K) (xs := xs) (fun _ => true) (fun j => dTup (srt ((rows.getD j []).map fun x => ((line.idxOf x : Nat) : Int)))) hD2 (seqT s1 hL) hxz (fun j _ _ => noL_dTup _) (fun i v H2 hi s2 Q1 Q2 k1 k2 => ?_) (fun ys H2 s2 hy r2 => ?_)
      · obtain ⟨ns, a2, hn, rfl, t⟩ := hr2.row hi
        have t := t.same (s1.trans s2)
        have hmem := hin ns (List.mem_of_getElem? hn)
        have en : rows.getD i [] = ns := by rw [List.getD_eq_getElem?_getD, hn]; rfl
        rw [en] at k1
        refine ⟨rfl, _, rfl, a2, rfl, ⟨_, t.1⟩, fun D3 hD3 => ?_⟩
        refine lcT (K := K) (xs := ns.map V.int) (fun _ => true) (fun j => .int ((line.idxOf (ns.getD j 0) : Nat) : Int)) hD3 t.1 (by rw [List.length_map]; exact t.2) (fun _ _ _ => rfl) (fun j v H3 hj s3 Q3 Q4 k3 k4 => ?_) (fun zs H3 s3 hz3 r3 => ?_)
        · have hl3 : j < ns.length := by
            have := (List.getElem?_eq_some_iff.mp hj).1
            simpa using this
          have ev : v = .int (ns.getD j 0) := by
            rw [mapD hl3] at hj
            exact (Option.some.inj hj).symm
          subst ev
          have hm : ns.getD j 0 ∈ line := by
            rw [List.getD_eq_getElem?_getD, List.getElem?_eq_getElem hl3]
            exact hmem _ (List.getElem_mem hl3)
          have hk3 := s3 _ _ (s2 _ _ hk)
          have hv : valV kvs (Sum.inl (ns.getD j 0)) = some (V.int (line.idxOf (ns.getD j 0) : Nat)) := by
            rw [dk.2, List.take_length, if_pos hm]
          exact ⟨rfl, _, rfl, _, rfl, _, _, rfl, .inl ⟨kvs, Sum.inl (ns.getD j 0), .inl hk3, rfl, hv.symm⟩, k3 rfl _ _ (Same.refl _) (.int _)⟩
        · rw [filter_true] at r3
          have ez : (List.range (ns.map V.int).length).map (fun j => PyData.int ((line.idxOf (ns.getD j 0) : Nat) : Int)) = (ns.map fun x => ((line.idxOf x : Nat) : Int)).map PyData.int := by
            rw [List.length_map, List.map_map]
            exact map_range (fun x => PyData.int ((line.idxOf x : Nat) : Int)) 0 ns
          rw [ez] at r3
          have := r3.ofInts
          subst this
          refine ⟨D3, _, rfl, SqL.of hz3, fun ns' q pm pw hq => ?_⟩
          have en2 := srt_eq pm pw
          subst en2
          dsimp only [tNil]
          refine tupL_use (SqL.of upd_same) fun p H4 s4 hp => ?_
          exact k1 rfl _ _ ((s3.trans (same_upd hq)).trans s4) (TupI.rp ⟨hp, by rw [srt_length, List.length_map]; exact t.2⟩)
      · rw [filter_true] at r2
        have ez : (List.range xs.length).map (fun j => dTup (srt ((rows.getD j []).map fun x => ((line.idxOf x : Nat) : Int)))) = (renum line rows).map dTup := by
          rw [lx]
          unfold renum
          rw [List.map_map]
          exact map_range (fun r : List Int => dTup (srt (r.map fun x => ((line.idxOf x : Nat) : Int)))) [] rows
        rw [ez] at r2
        have ly : ys.length ≤ 1000 := by
          rw [r2.length, List.length_map]
          unfold renum
          rw [List.length_map]
          omega
        dsimp only [tNil]
        refine tupL_use (SqL.of hy) fun p H4 s4 hp => ⟨(by show 2 ≤ sizeLine; decide), fun z hz4 => ?_⟩
        exact k _ _ (((s1.trans s2).trans s4).trans (same_upd hz4)) (rp_bookNew hp ly (r2.same s4) hz4)
end
end LK
namespace LK
open PySem PySem.Spec PyProof.Rows L2
theorem line_all {n : Int} {line : List Int} (nd : line.Nodup) (hb : ∀ x ∈ line, 0 ≤ x ∧ x < n) (hl : (line.length : Int) = n) {x : Int} (h0 : 0 ≤ x) (hx : x < n) : x ∈ line := by
  apply Classical.byContradiction
  intro hm
  have h1 : (x :: line).Nodup := List.nodup_cons.mpr ⟨hm, nd⟩
  have h2 : (x :: line) ⊆ (List.range n.toNat).map fun i : Nat => (i : Int) := fun y hy => by
    have : 0 ≤ y ∧ y < n := by
      rcases List.mem_cons.mp hy with rfl | hy
      · exact ⟨h0, hx⟩
      · exact hb y hy
    exact List.mem_map.mpr ⟨y.toNat, List.mem_range.mpr (by omega), by omega⟩
  have := nodup_le h1 h2
  rw [List.length_map, List.length_range, List.length_cons] at this
  omega
theorem revRange_length (n : Nat) : (revRange n).length = n := by unfold revRange; rw [List.length_map, List.length_range]
theorem rgR_rev {n : Int} (h : 0 ≤ n) : rgR 0 n = (revRange n.toNat).map V.int := by
  unfold rgR revRange
  rw [List.map_map, Int.sub_zero]
  refine List.map_congr_left fun i hi => ?_
  have := List.mem_range.mp hi
  show V.int (n - 1 - (i : Nat)) = V.int ((n.toNat - 1 - i : Nat) : Int)
  congr 1
  omega
theorem revRange_mem {n : Int} {x : Int} (h0 : 0 ≤ x) (hx : x < n) : x ∈ revRange n.toNat := by
  unfold revRange
  exact List.mem_map.mpr ⟨n.toNat - 1 - x.toNat, List.mem_range.mpr (by omega), by omega⟩
theorem revRange_nodup (n : Nat) : (revRange n).Nodup := by
  unfold revRange
  refine List.Pairwise.map _ ?_ (List.Pairwise.and_mem.mp (List.pairwise_lt_range (n := n)))
  intro a b hab
  obtain ⟨ha, hb, h⟩ := hab
  have := List.mem_range.mp hb
  intro e
  omega
section
variable {P : Program} {w : World} {K : PySem.W.Frag} {mg : Str → Option Value} {base : Heap} {ad : Nat → Addr} {fd : Nat → FuncData}
theorem ok_rebased (T : Txt K mg ad fd) : FnOk P w K mg base (L2.CX P w) 7 (ad 24) (fd 24) ["book", "line"] (spX K (ad 18) (fun n rows _ => RowsIn n rows) rebasedB) := by
  refine T.F_rebased.okX sc_rebased (fun vs H Q E h => ?_) (fun cdv A outer s H vs Q E hr h => ?_)
  · obtain ⟨v, u, d, n, rows, rfl, _⟩ := h
    rfl
  · obtain ⟨v, u, d, n, rows, rfl, h, hu, hin, k⟩ := h
    have h0 := h
    obtain ⟨b, L, xs, rfl, hb, hL, hz, hr2⟩ := rp_book h
    refine ⟨_, (pss_cons (ps_expr (pe_call (ok_need T) (hr.mono (by decide)) rfl T.m_need T.F_need.kp (b_need T) .nil (passes_call (takes_of rfl rfl rfl rfl) fun _ _ _ _ h => h) (pa_cons (pe_call (ok_is_line T) (hr.mono (by decide)) rfl T.m_is_line T.F_is_line.kp (b_is_line T) .nil pass0 (pa_cons (pe_ix (ixT K) (pv 0) pe_int (fun _ _ => rfl)) (pa_cons (pv 1) pa_nil))) (pa_cons pe_str pa_nil))))
  (pss_one (ps_ret (pe_call (ok_renumbered T) (hr.mono (by decide)) rfl T.m_renumbered T.F_renumbered.kp (b_renumbered T) .nil pass0 (pa_cons (pv 0) (pa_cons (pv 1) pa_nil)))))), ?_⟩
    refine ⟨_, rfl, _, _, _, _, rfl, rfl, hb, rfl, _, rfl, n, u, d, rfl, hu, fun H1 s1 => ?_⟩
    cases e : isLine n d with
    | false =>
      have ek : rebasedB n rows d = .error ("line", -1) := by simp [rebasedB, e]
      rw [ek] at k
      exact ⟨false, _, rfl, (fun z => by cases z), fun _ => k.same s1⟩
    | true =>
      have ek : rebasedB n rows d = .ok (bookD n (renum (dInts d) rows)) := by simp [rebasedB, e]
      rw [ek] at k
      have e1 : areUnlike n d = true ∧ ((dInts d).length : Int) = n := by
        unfold isLine at e
        rw [Bool.and_eq_true, decide_eq_true_eq] at e
        exact e
      have e2 : areBelow n d = true ∧ (dInts d).Nodup := by
        have := e1.1
        unfold areUnlike at this
        rw [Bool.and_eq_true, decide_eq_true_eq] at this
        exact this
      have ed := areBelow_tup e2.1
      have hbl : ∀ x ∈ dInts d, 0 ≤ x ∧ x < n := by
        have := e2.1
        rw [ed] at this
        replace this : ((dInts d).map PyData.int).all (isBelow n) = true := this
        rw [List.all_map] at this
        intro x hx
        have := List.all_eq_true.mp this x hx
        simpa [isBelow] using this
      rw [ed] at hu
      obtain ⟨a, rfl, ta⟩ := hu.tupI
      have ta1 := ta.same s1
      refine ⟨true, _, rfl, (fun _ => ?_), fun z => by cases z⟩
      refine ⟨_, rfl, _, rfl, _, a, n, rows, dInts d, rfl, h0.same s1, .inr ta1.1, ta1.2, e2.2, fun r hr x hx => ?_, fun u H' s' r => k u H' (s1.trans s') r⟩
      exact line_all e2.2 hbl e1.2 (hin r hr x hx).1 (hin r hr x hx).2
theorem ok_mirrored (T : Txt K mg ad fd) : FnOk P w K mg base CX0 2 (ad 25) (fd 25) ["book"] (fun vs H Q _ => ∃ v n rows, vs = [v] ∧ Rp K H v (bookD n rows) ∧ RowsIn n rows ∧ 0 ≤ n ∧ n ≤ 1000 ∧ ∀ u H', Same H H' → Rp K H' u (mirroredB n rows) → Q u H') := by
  refine T.F_mirrored.ok sc_mirrored (fun vs H Q E h => ?_) (fun cdv A outer s H vs Q E hr h => ?_)
  · obtain ⟨v, n, rows, rfl, _⟩ := h
    rfl
  · obtain ⟨v, n, rows, rfl, h, hin, h1, h2, k⟩ := h
    have h0 := h
    obtain ⟨b, L, xs, rfl, hb, hL, hz, hr2⟩ := rp_book h
    refine ⟨_, (pss_one (ps_ret (pe_call (ok_renumbered T) (hr.mono (by decide)) rfl T.m_renumbered T.F_renumbered.kp (b_renumbered T) .nil pass0 (pa_cons (pv 0) (pa_cons (pe_listRev rfl rfl T.g_list rfl T.g_reversed (prg_1 rfl T.g_range (pe_ix (ixT K) (pv 0) pe_int (fun _ _ => rfl)))) pa_nil))))), ?_⟩
    refine ⟨_, rfl, _, rfl, _, _, _, _, rfl, rfl, hb, rfl, _, rfl, RgOk.of_le (by decide) (by omega) (by decide) h1, fun q hq => ?_⟩
    have s1 := same_upd (o := .lst (rgR 0 n)) hq
    refine ⟨_, q, n, rows, revRange n.toNat, rfl, h0.same s1, .inl ?_, by rw [revRange_length]; omega, revRange_nodup _, fun r hr x hx => revRange_mem (hin r hr x hx).1 (hin r hr x hx).2, fun u H' s' r => k u H' (s1.trans s') r⟩
    rw [← rgR_rev h1]
    exact SqL.of upd_same
end
end LK
namespace LK
open PySem PySem.Spec PyProof.Rows L2
/-- the ties that a line turns -/
def fitT (n : Int) (rows : List (List Int)) (line : List Int) : List (List Int) := (tiesL n rows).filter fun t => decide (line.idxOf (t.getD 1 0) < line.idxOf (t.getD 0 0))
theorem tiesL_in {n : Int} {rows : List (List Int)} {t : List Int} (h : t ∈ tiesL n rows) : ∃ lo hi : Nat, t = [(lo : Int), (hi : Int)] ∧ lo < hi ∧ (hi : Int) < n ∧ tiedB rows lo hi = true := by
  unfold tiesL at h
  obtain ⟨x, hx, h2⟩ := List.mem_flatMap.mp h
  unfold tiesAt nearN at h2
  obtain ⟨y, hy, rfl⟩ := List.mem_map.mp h2
  obtain ⟨h3, h4⟩ := List.mem_filter.mp hy
  obtain ⟨h5, h6⟩ := List.mem_filter.mp h3
  have := List.mem_range.mp h5
  simp only [decide_eq_true_eq] at h4 h6
  exact ⟨x, y, rfl, by omega, by omega, h6.2⟩
theorem in_tiesL {n : Int} {rows : List (List Int)} {lo hi : Nat} (h1 : lo < hi) (h2 : (hi : Int) < n) (h3 : tiedB rows lo hi = true) : [(lo : Int), (hi : Int)] ∈ tiesL n rows := by
  unfold tiesL
  refine List.mem_flatMap.mpr ⟨lo, List.mem_range.mpr (by omega), ?_⟩
  unfold tiesAt nearN
  refine List.mem_map.mpr ⟨hi, List.mem_filter.mpr ⟨List.mem_filter.mpr ⟨List.mem_range.mpr (by omega), ?_⟩, ?_⟩, rfl⟩
  · simp only [decide_eq_true_eq]
    exact ⟨by omega, h3⟩
  · simp only [decide_eq_true_eq]
    omega
def spFitted (K : PySem.W.Frag) : Sp := fun vs H Q _ => ∃ v a n rows line, vs = [v, .ref a] ∧ Rp K H v (bookD n rows) ∧ (SqL K H a (line.map V.int) ∨ SqT K H a (line.map V.int)) ∧ line.length ≤ 1000 ∧ line.Nodup ∧ RowsIn n rows ∧ 0 ≤ n ∧ n ≤ 45 ∧ (∀ x : Int, 0 ≤ x → x < n → x ∈ line) ∧
  ∀ u H', Same H H' → Rp K H' u (.tuple ((fitT n rows line).map dTup)) → Q u H'
section
variable {P : Program} {w : World} {K : PySem.W.Frag} {mg : Str → Option Value} {base : Heap} {ad : Nat → Addr} {fd : Nat → FuncData}
theorem ok_fitted (T : Txt K mg ad fd) : FnOk P w K mg base CX0 4 (ad 44) (fd 44) ["book", "line"] (spFitted K) := by
  refine T.F_fitted.ok sc_fitted (fun vs H Q E h => ?_) (fun cdv A outer s H vs Q E hr h => ?_)
  · obtain ⟨v, a, n, rows, line, rfl, _⟩ := h
    rfl
  · obtain ⟨v, a, n, rows, line, rfl, h, hl, hz, nd, hin, h0, h1, hall, k⟩ := h
    refine ⟨_, (pss_cons (ps_set (i := 2) sc_fitted.nd rfl (Or.inr rfl) (pe_dc (own := [("k", 3), ("thing", 4)]) (g := gTup K 2 (gCons (gName 3) (gCons (gName 4) gNil))) rfl sc_fitted.nd (pi_enumA (K := K) rfl T.g_enumerate (pa_cons (pv 1) pa_nil)) (blkOk_by (N := ["book", "line", "spots", "k", "thing", "low", "high"]) (sc := defScope s_fitted) (by decide +kernel)) (fun _ _ _ _ _ => (pgT K (n := 2) rfl (pgs_cons (pg_name (i := 3) (x := "k") sc_fitted.nd rfl (Or.inl rfl)) (pgs_cons (pg_name (i := 4) (x := "thing") sc_fitted.nd rfl (Or.inl rfl)) pgs_nil)))) (fun _ _ _ _ _ => pts_nil) (fun _ _ _ _ _ => (pv 4)) (fun _ _ _ _ _ => (pv 3))))
  (pss_one (ps_ret (pe_callTy (tupOf K) (by rfl) T.g_tuple (by decide +kernel) (pa_cons (pe_lc (own := [("low", 5), ("high", 6)]) (g := gTup K 2 (gCons (gName 5) (gCons (gName 6) gNil))) rfl sc_fitted.nd (piT K (pe_call (ok_ties_of T) (hr.mono (by decide)) rfl T.m_ties_of T.F_ties_of.kp (b_ties_of T) .nil pass0 (pa_cons (pv 0) pa_nil))) (blkOk_by (N := ["book", "line", "spots", "k", "thing", "low", "high"]) (sc := defScope s_fitted) (by decide +kernel)) (fun _ _ _ _ _ => (pgT K (n := 2) rfl (pgs_cons (pg_name (i := 5) (x := "low") sc_fitted.nd rfl (Or.inl rfl)) (pgs_cons (pg_name (i := 6) (x := "high") sc_fitted.nd rfl (Or.inl rfl)) pgs_nil)))) (fun _ _ _ _ _ => (pts_one (pt_cmpR op_lt (pe_dget (hu_of hr) (pv 2) (pv 6) (fun _ _ => rfl)) (pe_dget (hu_of hr) (pv 2) (pv 5) (fun _ _ => rfl)) (nomark _)))) (fun _ _ _ _ _ => (pe_tup (pa_cons (pv 5) (pa_cons (pv 6) pa_nil))))) pa_nil))))), ?_⟩
    refine ⟨_, rfl, a, line.map V.int, rfl, ?_⟩
    rcases hl with hl | hl
    · refine .inl ⟨hl, fun D hD => dc_enum (K := K) (a := a) (line := line) hD hz nd _ (.inl ⟨rfl, hl⟩) (fun i x TT H1 Q0 hx hT s1 _ Q1 q1 => ⟨TT, _, rfl, SqT.of upd_same, rfl, _, _, rfl, _, _, rfl, rfl, rfl, rfl, _, rfl, _, rfl, q1⟩) (fun _ _ _ _ hq h => hq _ _ h)
        (fun v σ1 H2 Q0 Q1 hq ⟨z1, z2, z3, z4, z5, z6, z7, z8, z9, z10, z11, z12, z13⟩ => ⟨z1, z2, z3, z4, z5, z6, z7, z8, z9, z10, z11, z12, hq _ _ z13⟩) (fun kvs H1 s1 hk dk => ?_)⟩
      refine ⟨_, rfl, v, n, rows, rfl, h.same s1, hin, h0, h1, fun u H2 s2 ru => ?_⟩
      cases ru with
      | @tup tt xs ds st lt rt =>
      have lx : xs.length = (tiesL n rows).length := by rw [rt.length, List.length_map]
      refine ⟨tt, rfl, ⟨_, st⟩, fun D2 hD2 => ?_⟩
      refine lcT (K := K) (xs := xs) (fun j => decide (line.idxOf (((tiesL n rows).getD j []).getD 1 0) < line.idxOf (((tiesL n rows).getD j []).getD 0 0))) (fun j => dTup ((tiesL n rows).getD j [])) hD2 st lt (fun _ _ _ => noL_dTup _) (fun i x H3 hi s3 Q1 Q2 k1 k2 => ?_) (fun ys H3 s3 hy r3 => ?_)
      · obtain ⟨t, a2, hn, rfl, ta⟩ := rt.row hi
        have ta := ta.same s3
        have en : (tiesL n rows).getD i [] = t := by rw [List.getD_eq_getElem?_getD, hn]; rfl
        rw [en] at k1 k2
        obtain ⟨lo, hi2, e, hlt, hhn, _⟩ := tiesL_in (List.mem_of_getElem? hn)
        subst e
        have m1 := hall lo (by omega) (by omega)
        have m2 := hall hi2 (by omega) (by omega)
        have hk3 := s3 _ _ (s2 _ _ hk)
        have v1 : valV kvs (Sum.inl (lo : Int)) = some (V.int (line.idxOf (lo : Int) : Nat)) := by rw [dk.2, List.take_length, if_pos m1]
        have v2 : valV kvs (Sum.inl (hi2 : Int)) = some (V.int (line.idxOf (hi2 : Int) : Nat)) := by rw [dk.2, List.take_length, if_pos m2]
        refine ⟨a2, _, rfl, ta.1, rfl, _, _, rfl, _, _, rfl, rfl, rfl, ?_⟩
        refine ⟨_, rfl, _, rfl, _, _, rfl, .inl ⟨kvs, Sum.inl (hi2 : Int), .inl hk3, rfl, v2.symm⟩, _, rfl, _, rfl, _, _, rfl, .inl ⟨kvs, Sum.inl (lo : Int), .inl hk3, rfl, v1.symm⟩, ?_⟩
        refine ⟨_, _, rfl, rfl, _, rfl, ?_⟩
        show if decide (((line.idxOf (hi2 : Int) : Nat) : Int) < ((line.idxOf (lo : Int) : Nat) : Int)) = true then _ else _
        by_cases c : line.idxOf (hi2 : Int) < line.idxOf (lo : Int)
        · rw [decide_eq_true (by omega)]
          refine iteT ⟨_, rfl, _, rfl, (by show 2 ≤ sizeLine; decide), fun z hz4 => ?_⟩
          exact k1 (decide_eq_true c) _ _ (same_upd hz4) (TupI.rp (ns := [(lo : Int), (hi2 : Int)]) ⟨SqT.of upd_same, by show 2 ≤ 1000; decide⟩)
        · rw [decide_eq_false (by omega)]
          exact iteF (k2 (decide_eq_false c) _ (Same.refl _))
      · have ez : (((List.range xs.length).filter fun j => decide (line.idxOf (((tiesL n rows).getD j []).getD 1 0) < line.idxOf (((tiesL n rows).getD j []).getD 0 0))).map fun j => dTup ((tiesL n rows).getD j [])) = (fitT n rows line).map dTup := by
          rw [lx, filter_map_range (fun t : List Int => decide (line.idxOf (t.getD 1 0) < line.idxOf (t.getD 0 0))) (fun t => dTup t) [] (tiesL n rows)]
          rfl
        rw [ez] at r3
        have ly : ys.length ≤ 1000 := by
          rw [r3.length, List.length_map]
          unfold fitT
          exact Nat.le_trans (List.length_filter_le _ _) (by omega)
        dsimp only [tNil]
        refine tupL_use (SqL.of hy) fun p H4 s4 hp => ?_
        exact k _ _ (((s1.trans s2).trans s3).trans s4) (.tup hp ly (r3.same s4))
    · refine .inr ⟨hl, fun D hD => dc_enum (K := K) (a := a) (line := line) hD hz nd _ (.inr ⟨rfl, hl⟩) (fun i x TT H1 Q0 hx hT s1 _ Q1 q1 => ⟨TT, _, rfl, SqT.of upd_same, rfl, _, _, rfl, _, _, rfl, rfl, rfl, rfl, _, rfl, _, rfl, q1⟩) (fun _ _ _ _ hq h => hq _ _ h)
        (fun v σ1 H2 Q0 Q1 hq ⟨z1, z2, z3, z4, z5, z6, z7, z8, z9, z10, z11, z12, z13⟩ => ⟨z1, z2, z3, z4, z5, z6, z7, z8, z9, z10, z11, z12, hq _ _ z13⟩) (fun kvs H1 s1 hk dk => ?_)⟩
      refine ⟨_, rfl, v, n, rows, rfl, h.same s1, hin, h0, h1, fun u H2 s2 ru => ?_⟩
      cases ru with
      | @tup tt xs ds st lt rt =>
      have lx : xs.length = (tiesL n rows).length := by rw [rt.length, List.length_map]
      refine ⟨tt, rfl, ⟨_, st⟩, fun D2 hD2 => ?_⟩
      refine lcT (K := K) (xs := xs) (fun j => decide (line.idxOf (((tiesL n rows).getD j []).getD 1 0) < line.idxOf (((tiesL n rows).getD j []).getD 0 0))) (fun j => dTup ((tiesL n rows).getD j [])) hD2 st lt (fun _ _ _ => noL_dTup _) (fun i x H3 hi s3 Q1 Q2 k1 k2 => ?_) (fun ys H3 s3 hy r3 => ?_)
      · obtain ⟨t, a2, hn, rfl, ta⟩ := rt.row hi
        have ta := ta.same s3
        have en : (tiesL n rows).getD i [] = t := by rw [List.getD_eq_getElem?_getD, hn]; rfl
        rw [en] at k1 k2
        obtain ⟨lo, hi2, e, hlt, hhn, _⟩ := tiesL_in (List.mem_of_getElem? hn)
        subst e
        have m1 := hall lo (by omega) (by omega)
        have m2 := hall hi2 (by omega) (by omega)
        have hk3 := s3 _ _ (s2 _ _ hk)
        have v1 : valV kvs (Sum.inl (lo : Int)) = some (V.int (line.idxOf (lo : Int) : Nat)) := by rw [dk.2, List.take_length, if_pos m1]
        have v2 : valV kvs (Sum.inl (hi2 : Int)) = some (V.int (line.idxOf (hi2 : Int) : Nat)) := by rw [dk.2, List.take_length, if_pos m2]
        refine ⟨a2, _, rfl, ta.1, rfl, _, _, rfl, _, _, rfl, rfl, rfl, ?_⟩
        refine ⟨_, rfl, _, rfl, _, _, rfl, .inl ⟨kvs, Sum.inl (hi2 : Int), .inl hk3, rfl, v2.symm⟩, _, rfl, _, rfl, _, _, rfl, .inl ⟨kvs, Sum.inl (lo : Int), .inl hk3, rfl, v1.symm⟩, ?_⟩
        refine ⟨_, _, rfl, rfl, _, rfl, ?_⟩
        show if decide (((line.idxOf (hi2 : Int) : Nat) : Int) < ((line.idxOf (lo : Int) : Nat) : Int)) = true then _ else _
        by_cases c : line.idxOf (hi2 : Int) < line.idxOf (lo : Int)
        · rw [decide_eq_true (by omega)]
          refine iteT ⟨_, rfl, _, rfl, (by show 2 ≤ sizeLine; decide), fun z hz4 => ?_⟩
          exact k1 (decide_eq_true c) _ _ (same_upd hz4) (TupI.rp (ns := [(lo : Int), (hi2 : Int)]) ⟨SqT.of upd_same, by show 2 ≤ 1000; decide⟩)
        · rw [decide_eq_false (by omega)]
          exact iteF (k2 (decide_eq_false c) _ (Same.refl _))
      · have ez : (((List.range xs.length).filter fun j => decide (line.idxOf (((tiesL n rows).getD j []).getD 1 0) < line.idxOf (((tiesL n rows).getD j []).getD 0 0))).map fun j => dTup ((tiesL n rows).getD j [])) = (fitT n rows line).map dTup := by
          rw [lx, filter_map_range (fun t : List Int => decide (line.idxOf (t.getD 1 0) < line.idxOf (t.getD 0 0))) (fun t => dTup t) [] (tiesL n rows)]
          rfl
        rw [ez] at r3
        have ly : ys.length ≤ 1000 := by
          rw [r3.length, List.length_map]
          unfold fitT
          exact Nat.le_trans (List.length_filter_le _ _) (by omega)
        dsimp only [tNil]
        refine tupL_use (SqL.of hy) fun p H4 s4 hp => ?_
        exact k _ _ (((s1.trans s2).trans s3).trans s4) (.tup hp ly (r3.same s4))
end
end LK
namespace LK
open PySem PySem.Spec PyProof.Rows L2
theorem rgV_nat (n : Nat) : rgV 0 (n : Int) = (natI (List.range n)).map V.int := by
  unfold rgV natI
  rw [List.map_map]
  have e : ((n : Int) - 0).toNat = n := by omega
  rw [e]
  refine List.map_congr_left fun i _ => ?_
  show V.int (0 + (i : Int)) = V.int (i : Int)
  rw [Int.zero_add]
def spLineIn (K : PySem.W.Frag) : Sp := fun vs H Q _ => ∃ (D : Addr) (ms : List Nat), vs = [.ref D] ∧ SqL K H D ((natI ms).map V.int) ∧ ms.length ≤ 45 ∧ Acyc ms ∧ ∀ a H', Same H H' → TupI K H' a (natI (lineN ms)) → Q (.ref a) H'
section
variable {P : Program} {w : World} {K : PySem.W.Frag} {mg : Str → Option Value} {base : Heap} {ad : Nat → Addr} {fd : Nat → FuncData}
theorem ok_line_in (T : Txt K mg ad fd) : FnOk P w K mg base CX0 1 (ad 37) (fd 37) ["out"] (spLineIn K) := by
  refine T.F_line_in.ok sc_line_in (fun vs H Q E h => ?_) (fun cdv A outer s H vs Q E hr h => ?_)
  · obtain ⟨D, ms, rfl, _⟩ := h
    rfl
  · obtain ⟨D, ms, rfl, hD, hz, ha, k⟩ := h
    refine ⟨_, (pss_cons (ps_set (i := 1) sc_line_in.nd rfl (Or.inr rfl) (pe_listRg rfl rfl T.g_list (prg_1 rfl T.g_range (pe_callB (lenS K) (by rfl) T.g_len (by decide +kernel) (pa_cons (pv 0) pa_nil)))))
  (pss_cons (ps_set (i := 2) sc_line_in.nd rfl (Or.inl rfl) (pe_lst pa_nil))
  (pss_cons (ps_while PassesOwn.never (pt_truth (pv 1) (by intro _; rfl))
  (pss_cons (ps_set (i := 3) sc_line_in.nd rfl (Or.inr rfl) (pe_lc (own := [("thing", 4)]) (g := gName 4) rfl sc_line_in.nd (piL K (pv 1)) (blkOk_by (N := ["out", "left", "line", "free", "thing", "other"]) (sc := defScope s_line_in) (by decide +kernel)) (fun _ _ _ _ _ => (pg_name (i := 4) (x := "thing") sc_line_in.nd rfl (Or.inr rfl))) (fun _ _ _ _ _ => (pts_one (pt_not (pt_val (pe_callB (anyI K) (by rfl) T.g_any (by decide +kernel) (pa_cons (pe_lc (own := [("other", 5)]) (g := gName 5) rfl sc_line_in.nd (piL K (pv 1)) (blkOk_by (N := ["out", "left", "line", "free", "thing", "other"]) (sc := { kind := PySem.ScopeKind.function, names := [ (PySem.Str.ofString ".0", PySem.NameKind.local), (PySem.Str.ofString "thing", PySem.NameKind.cell), (PySem.Str.ofString "any", PySem.NameKind.globalImplicit), (PySem.Str.ofString "left", PySem.NameKind.cell), (PySem.Str.ofString "out", PySem.NameKind.cell)], isGenerator := false, isCoroutine := false, more := [] : PySem.Scope }) (by decide +kernel)) (fun _ _ _ _ _ => (pg_name (i := 5) (x := "other") sc_line_in.nd rfl (Or.inl rfl))) (fun _ _ _ _ _ => pts_nil) (fun _ _ _ _ _ => (pe_op op_and (pe_op op_shr (pe_ix (ixL K) (pv 0) (pv 5) (fun _ _ => rfl)) (pv 4)) pe_int))) pa_nil)))))) (fun _ _ _ _ _ => (pv 4))))
  (pss_cons (ps_expr (pe_bmK K PySem.F.plainAttrs_list PySem.F.slot_list_append PySem.F.type_list_append mt_append (pv 2) (pa_cons (pe_ix (ixL K) (pv 3) pe_int (fun _ _ => rfl)) pa_nil)))
  (pss_one (ps_set (i := 1) sc_line_in.nd rfl (Or.inr rfl) (pe_lc (own := [("thing", 4)]) (g := gName 4) rfl sc_line_in.nd (piL K (pv 1)) (blkOk_by (N := ["out", "left", "line", "free", "thing", "other"]) (sc := defScope s_line_in) (by decide +kernel)) (fun _ _ _ _ _ => (pg_name (i := 4) (x := "thing") sc_line_in.nd rfl (Or.inl rfl))) (fun _ _ _ _ _ => (pts_one (pt_cmpR op_ne (pv 4) (pe_ix (ixL K) (pv 3) pe_int (fun _ _ => rfl)) (nomark _)))) (fun _ _ _ _ _ => (pv 4))))))))
  (pss_one (ps_ret (pe_callTy (tupOf K) (by rfl) T.g_tuple (by decide +kernel) (pa_cons (pv 2) pa_nil))))))), ?_⟩
    refine ⟨_, rfl, _, _, rfl, .inl hD, ?_⟩
    have hnn : (0 : Int) ≤ ((((natI ms).map V.int).length : Nat) : Int) := by omega
    have hlen : (((natI ms).map V.int).length) = ms.length := by rw [List.length_map, natI_length]
    refine ⟨_, rfl, RgOk.of_le (by decide) (by rw [hlen]; omega) (by decide) hnn, fun L hL => ?_⟩
    refine ⟨(by show 0 ≤ sizeLine; decide), fun M hM => ?_⟩
    have hML : L ≠ M := fun z => by rw [z, upd_same] at hM; cases hM
    have hMn : H M = none := by rw [upd_ne (fun z => hML z.symm)] at hM; exact hM
    have hrg : rgV 0 ((((natI ms).map V.int).length : Nat) : Int) = (natI (List.range ms.length)).map V.int := by
      rw [hlen]
      exact rgV_nat ms.length
    rw [hrg] at hM
    rw [hrg]
    show tWhile (fun σ H1 Q => tVar 1 σ H1 fun x H' => ∃ k, TruV K x H' k ∧ Q k H') _ _ [some (V.ref D), some (V.ref L), some (V.ref M), none, none, none] _
    refine while_by (fun σ H1 => ∃ (L : Addr) (l done : List Nat) (kk : Nat) (v3 v4 v5 : Option V), σ = [some (.ref D), some (.ref L), some (.ref M), v3, v4, v5] ∧ Same H H1 ∧ L ≠ M ∧ H1 L = some (.lst ((natI l).map V.int)) ∧ H1 M = some (.lst ((natI done).map V.int)) ∧ (∀ x ∈ l, x < ms.length) ∧ done ++ lineGo (edgeB ms) kk l = lineN ms ∧ l.length ≤ kk ∧ done.length + l.length ≤ ms.length)
      (fun (σ : L2.St) (H1 : Hp) => match σ[1]? with | some (some (V.ref a)) => (match H1 a with | some (HO.lst l) => l.length | _ => 0) | _ => 0)
      ⟨L, List.range ms.length, [], ms.length, none, none, none, rfl, (same_upd hL).trans (same_upd hM), hML, by rw [upd_ne hML, upd_same], upd_same, fun x hx => List.mem_range.mp hx, rfl, by rw [List.length_range]; exact Nat.le_refl _, by rw [List.length_range, List.length_nil]; omega⟩ (fun σ H1 hp => ?_) (fun σ H1 Q1 Q2 hq ⟨v, e, kk, t, q⟩ => ⟨v, e, kk, t, hq _ _ q⟩)
    obtain ⟨L, l, done, kk, v3, v4, v5, rfl, s1, hLM, hL1, hM1, hll, hgo, hk, hsum⟩ := hp
    refine ⟨_, rfl, !((natI l).map V.int).isEmpty, .inl ⟨_, SqL.of hL1, rfl⟩, ?_⟩
    by_cases c : l = []
    · subst c
      refine iteF ?_
      dsimp only [tNil]
      refine ⟨_, rfl, ?_⟩
      dsimp only [tNil]
      refine tupL_use (SqL.of hM1) fun p H2 s2 hp => k p H2 (s1.trans s2) ⟨?_, ?_⟩
      · rw [lineGo_nil, List.append_nil] at hgo
        rw [← hgo]
        exact hp
      · rw [lineGo_nil, List.append_nil] at hgo
        rw [← hgo, natI_length]
        omega
    · have ec : (!((natI l).map V.int).isEmpty) = true := by
        cases l with
        | nil => exact absurd rfl c
        | cons a l => rfl
      rw [ec]
      refine iteT ?_
      obtain ⟨f, fs, hf, hfl⟩ := free_some ha c hll
      obtain ⟨kk, rfl⟩ : ∃ j, kk = j + 1 := ⟨kk - 1, by have := List.length_pos_iff.mpr c; omega⟩
      refine ⟨_, rfl, L, rfl, ⟨_, SqL.of hL1⟩, fun D2 hD2 => ?_⟩
      refine lcL (K := K) (xs := (natI l).map V.int) (fun j => !(l.any fun o => edgeB ms o (l.getD j 0))) (fun j => .int ((l.getD j 0 : Nat) : Int)) hD2 (SqL.of hL1) (by rw [List.length_map, natI_length]; omega) (fun _ _ _ => rfl) (fun i x H5 hi s5 Q1 Q2 k1 k2 => ?_) (fun ys H2 s2 hy r => ?_)
      · obtain ⟨m, hm, rfl⟩ := natAt hi
        have em : l.getD i 0 = m := by rw [List.getD_eq_getElem?_getD, hm]; rfl
        rw [em] at k1 k2
        have hL5 := s5 _ _ hL1
        refine ⟨rfl, ?_⟩
        refine ⟨_, rfl, L, rfl, ⟨_, SqL.of hL5⟩, fun D5 hD5 => ?_⟩
        refine lcL (K := K) (xs := (natI l).map V.int) (fun _ => true) (fun j => .int (if edgeB ms (l.getD j 0) m then 1 else 0)) hD5 (SqL.of hL5) (by rw [List.length_map, natI_length]; omega) (fun _ _ _ => rfl) (fun j y H6 hj s6 Q3 Q4 k3 k4 => ?_) (fun ys H6 s6 hy r => ?_)
        · obtain ⟨o, ho, rfl⟩ := natAt hj
          have eo : l.getD j 0 = o := by rw [List.getD_eq_getElem?_getD, ho]; rfl
          have hol := hll o (List.mem_of_getElem? ho)
          rw [eo] at k3
          refine ⟨rfl, _, rfl, _, rfl, D, _, _, _, rfl, rfl, ((s1.trans s5).trans s6).seq hD, atI_nat (natI_get (getD_some hol)), _, rfl, _, _, rfl, rfl, (by show (0 : Int) ≤ _; omega), _, _, rfl, rfl, ?_⟩
          show Q3 (.int (Builtin.bitAnd (((ms.getD o 0 : Nat) : Int) / 2 ^ ((m : Int)).toNat) 1)) H6
          rw [bit_and1]
          exact k3 rfl _ _ (Same.refl _) (.int _)
        · rw [filter_true, List.length_map, natI_length] at r
          have ez : (List.range l.length).map (fun j => PyData.int (if edgeB ms (l.getD j 0) m then 1 else 0)) = (l.map fun o => if edgeB ms o m then (1 : Int) else 0).map PyData.int := by
            rw [List.map_map]
            exact map_range (fun o => PyData.int (if edgeB ms o m then 1 else 0)) 0 l
          rw [ez] at r
          have := r.ofInts
          subst this
          refine ⟨_, _, rfl, SqL.of hy, _, rfl, ?_⟩
          have ea : ((l.map fun o => if edgeB ms o m then (1 : Int) else 0).any fun b => b != 0) = l.any fun o => edgeB ms o m := by
            rw [List.any_map]
            congr 1
            funext o
            show ((if edgeB ms o m then (1 : Int) else 0) != 0) = edgeB ms o m
            cases edgeB ms o m <;> rfl
          rw [ea]
          cases ca : (l.any fun o => edgeB ms o m) with
          | true => exact iteF (k2 (by rw [ca]; rfl) _ s6)
          | false => exact iteT ⟨_, rfl, k1 (by rw [ca]; rfl) _ _ s6 (.int _)⟩
      · have ez : (((List.range ((natI l).map V.int).length).filter fun j => !(l.any fun o => edgeB ms o (l.getD j 0))).map fun j => PyData.int ((l.getD j 0 : Nat) : Int)) = (natI (f :: fs)).map PyData.int := by
          rw [List.length_map, natI_length, filter_map_range (fun x => !(l.any fun o => edgeB ms o x)) (fun x => PyData.int ((x : Nat) : Int)) 0 l, ← hf]
          unfold natI freeL
          rw [List.map_map]
          rfl
        rw [ez] at r
        have := r.ofInts
        subst this
        have hM2 := s2 _ _ hM1
        have hL2 := s2 _ _ hL1
        have hDM : D2 ≠ M := fun z => by rw [z, hM1] at hD2; cases hD2
        have hM3 : upd H2 M (.lst ((natI done).map V.int ++ [.int (f : Int)])) M = some (.lst ((natI (done ++ [f])).map V.int)) := by
          rw [upd_same]
          unfold natI
          rw [List.map_append, List.map_append]
          rfl
        have s3 : Same H (upd H2 M (.lst ((natI done).map V.int ++ [.int (f : Int)]))) := same_upd2 hMn (s1.trans s2)
        have hL3 : upd H2 M (.lst ((natI done).map V.int ++ [.int (f : Int)])) L = some (.lst ((natI l).map V.int)) := by rw [upd_ne hLM]; exact hL2
        have hF3 : upd H2 M (.lst ((natI done).map V.int ++ [.int (f : Int)])) D2 = some (.lst ((natI (f :: fs)).map V.int)) := by rw [upd_ne hDM]; exact hy
        have g0 : ((natI (f :: fs)).map V.int)[0]? = some (.int (f : Int)) := rfl
        refine ⟨_, rfl, .inl ⟨rfl, _, SqL.of hM2⟩, _, rfl, D2, _, _, _, rfl, rfl, SqL.of hy, at_of (j := 0) rfl g0, M, _, _, rfl, rfl, hM2, small1000 (by rw [List.length_map, natI_length]; omega), ?_⟩
        generalize upd H2 M (.lst ((natI done).map V.int ++ [.int (f : Int)])) = H3 at *
        refine ⟨_, rfl, L, rfl, ⟨_, SqL.of hL3⟩, fun D3 hD3 => ?_⟩
        refine lcL (K := K) (xs := (natI l).map V.int) (fun j => decide (l.getD j 0 ≠ f)) (fun j => .int ((l.getD j 0 : Nat) : Int)) hD3 (SqL.of hL3) (by rw [List.length_map, natI_length]; omega) (fun _ _ _ => rfl) (fun i x H5 hi s5 Q1 Q2 k1 k2 => ?_) (fun ys H4 s4 hy4 r4 => ?_)
        · obtain ⟨m, hm, rfl⟩ := natAt hi
          have em : l.getD i 0 = m := by rw [List.getD_eq_getElem?_getD, hm]; rfl
          rw [em] at k1 k2
          refine ⟨rfl, _, rfl, _, rfl, D2, _, _, _, rfl, rfl, SqL.of (s5 _ _ hF3), at_of (j := 0) rfl g0, ?_⟩
          refine ⟨rfl, _, rfl, ?_⟩
          show if (!decide (V.int (m : Int) = V.int (f : Int))) = true then _ else _
          by_cases e : m = f
          · rw [decide_eq_true (by rw [e])]
            exact iteF (k2 (decide_eq_false (fun z => z e)) _ (Same.refl _))
          · rw [decide_eq_false (fun z => e (by injection z with z; omega))]
            exact iteT ⟨_, rfl, k1 (decide_eq_true e) _ _ (Same.refl _) (.int _)⟩
        · have ez : (((List.range ((natI l).map V.int).length).filter fun j => decide (l.getD j 0 ≠ f)).map fun j => PyData.int ((l.getD j 0 : Nat) : Int)) = (natI (l.filter fun x => decide (x ≠ f))).map PyData.int := by
            rw [List.length_map, natI_length, filter_map_range (fun x => decide (x ≠ f)) (fun x => PyData.int ((x : Nat) : Int)) 0 l]
            unfold natI
            rw [List.map_map]
            rfl
          rw [ez] at r4
          have := r4.ofInts
          subst this
          have hlen : (l.filter fun x => decide (x ≠ f)).length < l.length := List.length_filter_lt_length_iff_exists.mpr ⟨f, hfl, by simp⟩
          refine ⟨⟨D3, l.filter fun x => decide (x ≠ f), done ++ [f], kk, _, _, _, rfl, s3.trans s4, fun z => ?_, hy4, s4 _ _ hM3, fun x hx => hll x (List.mem_filter.mp hx).1, ?_, by omega, ?_⟩, ?_⟩
          · rw [z, hM3] at hD3
            cases hD3
          · rw [← hgo, lineGo_cons hf, List.append_assoc]
            rfl
          · rw [List.length_append, List.length_singleton]
            omega
          · show (match H4 D3 with | some (HO.lst l) => l.length | _ => 0) < (match H1 L with | some (HO.lst l) => l.length | _ => 0)
            rw [hy4, hL1]
            simp only [List.length_map, natI_length]
            exact hlen
end
end LK
namespace LK
open PySem PySem.Spec PyProof.Rows L2
def dRows (T : List (List Int)) : PyData := .tuple (T.map dTup)
def In45 (n : Int) (rows : List (List Int)) : Prop := RowsIn n rows ∧ 0 ≤ n ∧ n ≤ 45
def sortingOfX (n : Int) (rows : List (List Int)) (d : PyData) : Except (Str × Int) PyData := if isLine n d then .ok (dRows (fitT n rows (dInts d))) else .error ("line", -1)
/-- the line of a sorting -/
def lineT (n : Int) (rows T : List (List Int)) : List Int := natI (lineN (ledM n rows T))
noncomputable def lineOfX (n : Int) (rows : List (List Int)) (d : PyData) : Except (Str × Int) PyData := if isSorting n rows d then .ok (dTup (lineT n rows (toT d))) else .error ("sorting", -1)
noncomputable def turnedOverX (n : Int) (rows : List (List Int)) (d : PyData) : Except (Str × Int) PyData := if isSorting n rows d then .ok (dRows ((tiesL n rows).filter fun t => !decide (t ∈ toT d))) else .error ("sorting", -1)
theorem isSorting_in {n : Int} {rows : List (List Int)} {d : PyData} (h : isSorting n rows d = true) : d = dRows (toT d) ∧ TiesIn n rows (toT d) ∧ Acyc (ledM n rows (toT d)) := by
  unfold isSorting at h
  rw [Bool.and_eq_true] at h
  have h2 := isTies_in h.1
  exact ⟨h2.1, h2.2, acycB_iff.mp h.2⟩
theorem isLine_in {n : Int} {d : PyData} (e : isLine n d = true) : d = dTup (dInts d) ∧ (dInts d).Nodup ∧ ((dInts d).length : Int) = n ∧ (∀ x ∈ dInts d, 0 ≤ x ∧ x < n) := by
  have e1 : areUnlike n d = true ∧ ((dInts d).length : Int) = n := by
    unfold isLine at e
    rw [Bool.and_eq_true, decide_eq_true_eq] at e
    exact e
  have e2 : areBelow n d = true ∧ (dInts d).Nodup := by
    have := e1.1
    unfold areUnlike at this
    rw [Bool.and_eq_true, decide_eq_true_eq] at this
    exact this
  have ed := areBelow_tup e2.1
  refine ⟨ed, e2.2, e1.2, ?_⟩
  have := e2.1
  rw [ed] at this
  replace this : ((dInts d).map PyData.int).all (isBelow n) = true := this
  rw [List.all_map] at this
  intro x hx
  have := List.all_eq_true.mp this x hx
  simpa [isBelow] using this
section
variable {P : Program} {w : World} {K : PySem.W.Frag} {mg : Str → Option Value} {base : Heap} {ad : Nat → Addr} {fd : Nat → FuncData}
theorem ok_sorting_of (T : Txt K mg ad fd) : FnOk P w K mg base (L2.CX P w) 7 (ad 45) (fd 45) ["book", "line"] (spX K (ad 18) (fun n rows _ => In45 n rows) sortingOfX) := by
  refine T.F_sorting_of.okX sc_sorting_of (fun vs H Q E h => ?_) (fun cdv A outer s H vs Q E hr h => ?_)
  · obtain ⟨v, u, d, n, rows, rfl, _⟩ := h
    rfl
  · obtain ⟨v, u, d, n, rows, rfl, h, hu, ⟨hin, hn0, hn1⟩, k⟩ := h
    have hbk := h
    obtain ⟨b, L, xs, rfl, hb, hL, hz, hr2⟩ := rp_book h
    refine ⟨_, (pss_cons (ps_expr (pe_call (ok_need T) (hr.mono (by decide)) rfl T.m_need T.F_need.kp (b_need T) .nil (passes_call (takes_of rfl rfl rfl rfl) fun _ _ _ _ h => h) (pa_cons (pe_call (ok_is_line T) (hr.mono (by decide)) rfl T.m_is_line T.F_is_line.kp (b_is_line T) .nil pass0 (pa_cons (pe_ix (ixT K) (pv 0) pe_int (fun _ _ => rfl)) (pa_cons (pv 1) pa_nil))) (pa_cons pe_str pa_nil))))
  (pss_one (ps_ret (pe_call (ok_fitted T) (hr.mono (by decide)) rfl T.m_fitted T.F_fitted.kp (b_fitted T) .nil pass0 (pa_cons (pv 0) (pa_cons (pv 1) pa_nil)))))), ?_⟩
    refine ⟨_, rfl, _, _, _, _, rfl, rfl, hb, rfl, _, rfl, n, u, d, rfl, hu, fun H1 s1 => ?_⟩
    cases e : isLine n d with
    | false =>
      have ek : sortingOfX n rows d = .error ("line", -1) := by simp [sortingOfX, e]
      rw [ek] at k
      exact ⟨false, _, rfl, (fun z => by cases z), fun _ => k.same s1⟩
    | true =>
      have ek : sortingOfX n rows d = .ok (dRows (fitT n rows (dInts d))) := by simp [sortingOfX, e]
      rw [ek] at k
      obtain ⟨ed, nd, hlen, hbl⟩ := isLine_in e
      rw [ed] at hu
      obtain ⟨a, rfl, ta⟩ := hu.tupI
      have ta1 := ta.same s1
      refine ⟨true, _, rfl, (fun _ => ?_), fun z => by cases z⟩
      exact ⟨_, rfl, _, rfl, _, a, n, rows, dInts d, rfl, hbk.same s1, .inr ta1.1, ta1.2, nd, hin, hn0, hn1, fun x hx0 hx1 => line_all nd hbl hlen hx0 hx1, fun u H' s' r => k u H' (s1.trans s') r⟩
theorem ok_line_of (T : Txt K mg ad fd) : FnOk P w K mg base (L2.CX P w) 9 (ad 46) (fd 46) ["book", "sorting"] (spX K (ad 18) (fun n rows _ => In45 n rows) lineOfX) := by
  refine T.F_line_of.okX sc_line_of (fun vs H Q E h => ?_) (fun cdv A outer s H vs Q E hr h => ?_)
  · obtain ⟨v, u, d, n, rows, rfl, _⟩ := h
    rfl
  · obtain ⟨v, u, d, n, rows, rfl, h, hu, ⟨hin, hn0, hn1⟩, k⟩ := h
    refine ⟨_, (pss_cons (ps_expr (pe_call (ok_need T) (hr.mono (by decide)) rfl T.m_need T.F_need.kp (b_need T) .nil (passes_call (takes_of rfl rfl rfl rfl) fun _ _ _ _ h => h) (pa_cons (pe_call (ok_is_sorting T) (hr.mono (by decide)) rfl T.m_is_sorting T.F_is_sorting.kp (b_is_sorting T) .nil pass0 (pa_cons (pv 0) (pa_cons (pv 1) pa_nil))) (pa_cons pe_str pa_nil))))
  (pss_one (ps_ret (pe_call (ok_line_in T) (hr.mono (by decide)) rfl T.m_line_in T.F_line_in.kp (b_line_in T) .nil pass0 (pa_cons (pe_call (ok_leading_masks T) (hr.mono (by decide)) rfl T.m_leading_masks T.F_leading_masks.kp (b_leading_masks T) .nil pass0 (pa_cons (pv 0) (pa_cons (pv 1) pa_nil))) pa_nil))))), ?_⟩
    refine ⟨_, rfl, _, rfl, v, u, d, n, rows, rfl, h, hu, hin, hn0, hn1, fun H1 s1 => ?_⟩
    cases e : isSorting n rows d with
    | false =>
      have ek : lineOfX n rows d = .error ("sorting", -1) := by simp [lineOfX, e]
      rw [ek] at k
      exact ⟨false, _, rfl, (fun z => by cases z), fun _ => k.same s1⟩
    | true =>
      have ek : lineOfX n rows d = .ok (dTup (lineT n rows (toT d))) := by simp [lineOfX, e]
      rw [ek] at k
      obtain ⟨ed, hT, hac⟩ := isSorting_in e
      have hu1 := hu.same s1
      rw [ed] at hu1
      refine ⟨true, _, rfl, (fun _ => ?_), fun z => by cases z⟩
      refine ⟨_, rfl, _, rfl, v, u, n, rows, toT d, rfl, h.same s1, hu1, hin, hn0, hn1, hT, fun p ms H2 s2 hp hm L => ?_⟩
      have em := led_eq hin L
      subst em
      exact ⟨p, _, rfl, SqL.of hm, by rw [ledM_length]; omega, hac, fun a H3 s3 ta => k _ _ ((s1.trans s2).trans s3) ta.rp⟩
theorem ok_turned_over (T : Txt K mg ad fd) : FnOk P w K mg base (L2.CX P w) 9 (ad 48) (fd 48) ["book", "sorting"] (spX K (ad 18) (fun n rows _ => In45 n rows) turnedOverX) := by
  refine T.F_turned_over.okX sc_turned_over (fun vs H Q E h => ?_) (fun cdv A outer s H vs Q E hr h => ?_)
  · obtain ⟨v, u, d, n, rows, rfl, _⟩ := h
    rfl
  · obtain ⟨v, u, d, n, rows, rfl, h, hu, ⟨hin, hn0, hn1⟩, k⟩ := h
    refine ⟨_, (pss_cons (ps_expr (pe_call (ok_need T) (hr.mono (by decide)) rfl T.m_need T.F_need.kp (b_need T) .nil (passes_call (takes_of rfl rfl rfl rfl) fun _ _ _ _ h => h) (pa_cons (pe_call (ok_is_sorting T) (hr.mono (by decide)) rfl T.m_is_sorting T.F_is_sorting.kp (b_is_sorting T) .nil pass0 (pa_cons (pv 0) (pa_cons (pv 1) pa_nil))) (pa_cons pe_str pa_nil))))
  (pss_one (ps_ret (pe_callTy (tupOf K) (by rfl) T.g_tuple (by decide +kernel) (pa_cons (pe_lc (own := [("tie", 2)]) (g := gName 2) rfl sc_turned_over.nd (piT K (pe_call (ok_ties_of T) (hr.mono (by decide)) rfl T.m_ties_of T.F_ties_of.kp (b_ties_of T) .nil pass0 (pa_cons (pv 0) pa_nil))) (blkOk_by (N := ["book", "sorting", "tie"]) (sc := defScope s_turned_over) (by decide +kernel)) (fun _ _ _ _ _ => (pg_name (i := 2) (x := "tie") sc_turned_over.nd rfl (Or.inl rfl))) (fun _ _ _ _ _ => (pts_one (pt_cmpR (notInR K (hu65 hr)) (pv 2) (pv 1) (by with_unfolding_all rfl)))) (fun _ _ _ _ _ => (pv 2))) pa_nil))))), ?_⟩
    refine ⟨_, rfl, _, rfl, v, u, d, n, rows, rfl, h, hu, hin, hn0, hn1, fun H1 s1 => ?_⟩
    cases e : isSorting n rows d with
    | false =>
      have ek : turnedOverX n rows d = .error ("sorting", -1) := by simp [turnedOverX, e]
      rw [ek] at k
      exact ⟨false, _, rfl, (fun z => by cases z), fun _ => k.same s1⟩
    | true =>
      have ek : turnedOverX n rows d = .ok (dRows ((tiesL n rows).filter fun t => !decide (t ∈ toT d))) := by simp [turnedOverX, e]
      rw [ek] at k
      obtain ⟨ed, hT, hac⟩ := isSorting_in e
      have hu1 := hu.same s1
      rw [ed] at hu1
      refine ⟨true, _, rfl, (fun _ => ?_), fun z => by cases z⟩
      refine ⟨_, rfl, v, n, rows, rfl, h.same s1, hin, hn0, hn1, fun u2 H2 s2 ru => ?_⟩
      cases ru with
      | @tup tt xs ds st lt rt =>
      have lx : xs.length = (tiesL n rows).length := by rw [rt.length, List.length_map]
      refine ⟨tt, rfl, ⟨_, st⟩, fun D2 hD2 => ?_⟩
      refine lcT (K := K) (xs := xs) (fun j => !decide ((tiesL n rows).getD j [] ∈ toT d)) (fun j => dTup ((tiesL n rows).getD j [])) hD2 st lt (fun _ _ _ => noL_dTup _) (fun i x H3 hi s3 Q1 Q2 k1 k2 => ?_) (fun ys H3 s3 hy r3 => ?_)
      · obtain ⟨t, a2, hn, rfl, ta⟩ := rt.row hi
        have ta := ta.same s3
        have en : (tiesL n rows).getD i [] = t := by rw [List.getD_eq_getElem?_getD, hn]; rfl
        rw [en] at k1 k2
        refine ⟨rfl, _, rfl, _, rfl, t, toT d, ta.rp, hu1.same (s2.trans s3), _, rfl, ?_⟩
        show if (!decide (t ∈ toT d)) = true then _ else _
        cases c : (!decide (t ∈ toT d)) with
        | true => exact iteT ⟨_, rfl, k1 c _ _ (Same.refl _) ta.rp⟩
        | false => exact iteF (k2 c _ (Same.refl _))
      · have ez : (((List.range xs.length).filter fun j => !decide ((tiesL n rows).getD j [] ∈ toT d)).map fun j => dTup ((tiesL n rows).getD j [])) = ((tiesL n rows).filter fun t => !decide (t ∈ toT d)).map dTup := by
          rw [lx, filter_map_range (fun t : List Int => !decide (t ∈ toT d)) (fun t => dTup t) [] (tiesL n rows)]
        rw [ez] at r3
        have ly : ys.length ≤ 1000 := by
          rw [r3.length, List.length_map]
          exact Nat.le_trans (List.length_filter_le _ _) (by omega)
        dsimp only [tNil]
        refine tupL_use (SqL.of hy) fun p H4 s4 hp => ?_
        exact k _ _ (((s1.trans s2).trans s3).trans s4) (.tup hp ly (r3.same s4))
end
end LK
namespace LK
open PySem PySem.Spec PyProof.Rows L2
def restr (lot : List Int) (T : List (List Int)) : List (List Int) := (T.filter fun t => decide (t.getD 0 0 ∈ lot) && decide (t.getD 1 0 ∈ lot)).map fun t => [((lot.idxOf (t.getD 0 0) : Nat) : Int), ((lot.idxOf (t.getD 1 0) : Nat) : Int)]
noncomputable def restrictedX (n : Int) (rows : List (List Int)) (d e : PyData) : Except (Str × Int) PyData :=
  if isSorting n rows d then (if isLot n e && decide (0 < (dInts e).length) then .ok (dRows (restr (dInts e) (toT d))) else .error ("lot", -1)) else .error ("sorting", -1)
def spX2N (K : PySem.W.Frag) (C : Addr) (ok : Int → List (List Int) → Prop) (g : Int → List (List Int) → PyData → PyData → Except (Str × Int) PyData) : Sp :=
  fun vs H Q E => ∃ v u1 u2 d1 d2 n rows, vs = [v, u1, u2] ∧ Rp K H v (bookD n rows) ∧ Rp K H u1 d1 ∧ Rp K H u2 d2 ∧ (isLot n d2 = true → 0 < (dInts d2).length → DN H u2) ∧ ok n rows ∧ Out K C Q E H (g n rows d1 d2)
section
variable {P : Program} {w : World} {K : PySem.W.Frag} {mg : Str → Option Value} {base : Heap} {ad : Nat → Addr} {fd : Nat → FuncData}
theorem ok_restricted (T : Txt K mg ad fd) : FnOk P w K mg base (L2.CX P w) 9 (ad 49) (fd 49) ["book", "sorting", "lot"] (spX2N K (ad 18) In45 restrictedX) := by
  refine T.F_restricted.okX sc_restricted (fun vs H Q E h => ?_) (fun cdv A outer s H vs Q E hr h => ?_)
  · obtain ⟨v, u1, u2, d1, d2, n, rows, rfl, _⟩ := h
    rfl
  · obtain ⟨v, u1, u2, d1, d2, n, rows, rfl, h, hu, hl, dn, ⟨hin, hn0, hn1⟩, k⟩ := h
    refine ⟨_, (pss_cons (ps_expr (pe_call (ok_need T) (hr.mono (by decide)) rfl T.m_need T.F_need.kp (b_need T) .nil (passes_call (takes_of rfl rfl rfl rfl) fun _ _ _ _ h => h) (pa_cons (pe_call (ok_is_sorting T) (hr.mono (by decide)) rfl T.m_is_sorting T.F_is_sorting.kp (b_is_sorting T) .nil pass0 (pa_cons (pv 0) (pa_cons (pv 1) pa_nil))) (pa_cons pe_str pa_nil))))
  (pss_cons (ps_expr (pe_call (ok_need T) (hr.mono (by decide)) rfl T.m_need T.F_need.kp (b_need T) .nil (passes_call (takes_of rfl rfl rfl rfl) fun _ _ _ _ h => h) (pa_cons (pe_and (pe_call (ok_is_lot T) (hr.mono (by decide)) rfl T.m_is_lot T.F_is_lot.kp (b_is_lot T) .nil pass0 (pa_cons (pe_ix (ixT K) (pv 0) pe_int (fun _ _ => rfl)) (pa_cons (pv 2) pa_nil))) (pe_one (pe_cmpR op_gt (pe_callB (lenS K) (by rfl) T.g_len (by decide +kernel) (pa_cons (pv 2) pa_nil)) pe_int (nomark _)))) (pa_cons pe_str pa_nil))))
  (pss_one (ps_ret (pe_callTy (tupOf K) (by rfl) T.g_tuple (by decide +kernel) (pa_cons (pe_lc (own := [("low", 3), ("high", 4)]) (g := gTup K 2 (gCons (gName 3) (gCons (gName 4) gNil))) rfl sc_restricted.nd (piT K (pv 1)) (blkOk_by (N := ["book", "sorting", "lot", "low", "high"]) (sc := defScope s_restricted) (by decide +kernel)) (fun _ _ _ _ _ => (pgT K (n := 2) rfl (pgs_cons (pg_name (i := 3) (x := "low") sc_restricted.nd rfl (Or.inl rfl)) (pgs_cons (pg_name (i := 4) (x := "high") sc_restricted.nd rfl (Or.inl rfl)) pgs_nil)))) (fun _ _ _ _ _ => (pts_one (PW.pt (pw_and (pt_cmpR (inS K) (pv 3) (pv 2) (by with_unfolding_all rfl)) (pw_and1 (pt_cmpR (inS K) (pv 4) (pv 2) (by with_unfolding_all rfl))))))) (fun _ _ _ _ _ => (pe_tup (pa_cons (pe_tidx (K := K) (pv 2) (pa_cons (pv 3) pa_nil)) (pa_cons (pe_tidx (K := K) (pv 2) (pa_cons (pv 4) pa_nil)) pa_nil))))) pa_nil)))))), ?_⟩
    refine ⟨_, rfl, _, rfl, v, u1, d1, n, rows, rfl, h, hu, hin, hn0, hn1, fun H1 s1 => ?_⟩
    cases e : isSorting n rows d1 with
    | false =>
      have ek : restrictedX n rows d1 d2 = .error ("sorting", -1) := by simp [restrictedX, e]
      rw [ek] at k
      exact ⟨false, _, rfl, (fun z => by cases z), fun _ => k.same s1⟩
    | true =>
      obtain ⟨ed, hT, hac⟩ := isSorting_in e
      have hu1 := hu.same s1
      rw [ed] at hu1
      refine ⟨true, _, rfl, (fun _ => ?_), fun z => by cases z⟩
      have hb0 := h.same s1
      obtain ⟨b, L, xs, rfl, hb, hL, hz, hr2⟩ := rp_book hb0
      refine ⟨_, rfl, _, _, _, _, rfl, rfl, hb, rfl, _, rfl, n, u2, d2, rfl, hl.same s1, fun H2 s2 => ⟨_, rfl, ?_⟩⟩
      cases e2 : isLot n d2 with
      | false =>
        have ek : restrictedX n rows d1 d2 = .error ("lot", -1) := by simp [restrictedX, e, e2]
        rw [ek] at k
        exact iteF ⟨false, _, rfl, (fun z => by cases z), fun _ => k.same (s1.trans s2)⟩
      | true =>
        have e3 : areBelow n d2 = true := by
          unfold isLot at e2
          rw [Bool.and_eq_true] at e2
          exact e2.1
        have ed2 := areBelow_tup e3
        have dn := dn e2
        rw [ed2] at hl
        obtain ⟨a, rfl, ta⟩ := hl.tupI
        generalize hlot : dInts d2 = lot at *
        have ta2 := ta.same (s1.trans s2)
        refine iteT ⟨_, rfl, _, _, rfl, .inr ta2.1, _, _, rfl, rfl, _, _, rfl, (fun hc => ?_), fun hc => ?_⟩
        rotate_left
        · have hc2 : ¬ 0 < lot.length := by
            simp only [List.length_map] at hc
            simpa using hc
          have ek : restrictedX n rows d1 d2 = .error ("lot", -1) := by simp [restrictedX, e, e2, hlot]; exact List.length_eq_zero_iff.mp (by omega)
          rw [ek] at k
          exact k.same (s1.trans s2)
        have hpos : 0 < lot.length := by
          simp only [List.length_map] at hc
          simpa using hc
        have ek : restrictedX n rows d1 d2 = .ok (dRows (restr lot (toT d1))) := by
          unfold restrictedX
          rw [e, e2, hlot, decide_eq_true hpos]
          rfl
        rw [ek] at k
        have dn0 := dn hpos
        cases hu1 with
        | @tup tt xs ds st lt rt =>
        have lx : xs.length = (toT d1).length := by rw [rt.length, List.length_map]
        refine ⟨_, rfl, tt, rfl, ⟨_, seqT s2 st⟩, fun D2 hD2 => ?_⟩
        refine lcT (K := K) (xs := xs) (fun j => decide (((toT d1).getD j []).getD 0 0 ∈ lot) && decide (((toT d1).getD j []).getD 1 0 ∈ lot)) (fun j => dTup [((lot.idxOf (((toT d1).getD j []).getD 0 0) : Nat) : Int), ((lot.idxOf (((toT d1).getD j []).getD 1 0) : Nat) : Int)]) hD2 (seqT s2 st) lt (fun _ _ _ => noL_dTup _) (fun i x H3 hi s3 Q1 Q2 k1 k2 => ?_) (fun ys H3 s3 hy r3 => ?_)
        · obtain ⟨t, a2, hn, rfl, tt2⟩ := rt.row hi
          have tt2 := tt2.same (s2.trans s3)
          have ta3 := ta.same ((s1.trans s2).trans s3)
          have dn3 := dn0.same ((s1.trans s2).trans s3)
          have en : (toT d1).getD i [] = t := by rw [List.getD_eq_getElem?_getD, hn]; rfl
          rw [en] at k1 k2
          obtain ⟨lo, hi2, et, hlt, hhn, _⟩ := hT.1 t (List.mem_of_getElem? hn)
          subst et
          refine ⟨a2, _, rfl, tt2.1, rfl, _, _, rfl, _, _, rfl, rfl, rfl, ?_⟩
          refine ⟨_, rfl, _, rfl, a, _, rfl, .inr ta3.1, rfl, flat_ints lot, _, rfl, ?_⟩
          show if inV (.int (lo : Int)) (lot.map V.int) = true then _ else _
          rw [inV_int]
          by_cases c : (lo : Int) ∈ lot
          · rw [decide_eq_true c]
            refine iteT ⟨_, rfl, _, rfl, a, _, rfl, .inr ta3.1, rfl, flat_ints lot, _, rfl, ?_⟩
            show if inV (.int (hi2 : Int)) (lot.map V.int) = true then _ else _
            rw [inV_int]
            by_cases c2 : (hi2 : Int) ∈ lot
            · rw [decide_eq_true c2]
              refine iteT ⟨_, rfl, a, _, rfl, ta3.1, dn3, _, rfl, _, rfl, ta3.1, c, _, rfl, a, _, rfl, ta3.1, dn3, _, rfl, _, rfl, ta3.1, c2, (by show 2 ≤ sizeLine; decide), fun z hz4 => ?_⟩
              exact k1 (by show (decide ((lo : Int) ∈ lot) && decide ((hi2 : Int) ∈ lot)) = true; rw [decide_eq_true c]; exact decide_eq_true c2) _ _ (same_upd hz4) (TupI.rp (ns := [((lot.idxOf (lo : Int) : Nat) : Int), ((lot.idxOf (hi2 : Int) : Nat) : Int)]) ⟨SqT.of upd_same, by show 2 ≤ 1000; decide⟩)
            · rw [decide_eq_false c2]
              exact iteF (k2 (by show (decide ((lo : Int) ∈ lot) && decide ((hi2 : Int) ∈ lot)) = false; rw [decide_eq_true c]; exact decide_eq_false c2) _ (Same.refl _))
          · rw [decide_eq_false c]
            exact iteF (k2 (by show (decide ((lo : Int) ∈ lot) && decide ((hi2 : Int) ∈ lot)) = false; rw [decide_eq_false c]; rfl) _ (Same.refl _))
        · have ez : (((List.range xs.length).filter fun j => decide (((toT d1).getD j []).getD 0 0 ∈ lot) && decide (((toT d1).getD j []).getD 1 0 ∈ lot)).map fun j => dTup [((lot.idxOf (((toT d1).getD j []).getD 0 0) : Nat) : Int), ((lot.idxOf (((toT d1).getD j []).getD 1 0) : Nat) : Int)]) = (restr lot (toT d1)).map dTup := by
            rw [lx, filter_map_range (fun t : List Int => decide (t.getD 0 0 ∈ lot) && decide (t.getD 1 0 ∈ lot)) (fun t => dTup [((lot.idxOf (t.getD 0 0) : Nat) : Int), ((lot.idxOf (t.getD 1 0) : Nat) : Int)]) [] (toT d1)]
            unfold restr
            rw [List.map_map]
            rfl
          rw [ez] at r3
          have ly : ys.length ≤ 1000 := by
            rw [r3.length, List.length_map]
            unfold restr
            rw [List.length_map]
            exact Nat.le_trans (List.length_filter_le _ _) (by omega)
          dsimp only [tNil]
          refine tupL_use (SqL.of hy) fun p H4 s4 hp => ?_
          exact k _ _ (((s1.trans s2).trans s3).trans s4) (.tup hp ly (r3.same s4))
end
end LK
namespace LK
open PySem PySem.Spec PyProof.Rows L2
def cdT (t : List Int) : Int := TS.code 64 t
def srtP (T : List (List Int)) : List (List Int) := T.mergeSort fun a b => decide (cdT a ≤ cdT b)
def mirT (n : Int) (T : List (List Int)) : List (List Int) := srtP (T.map fun t => [n - 1 - t.getD 1 0, n - 1 - t.getD 0 0])
noncomputable def mirroredSX (n : Int) (rows : List (List Int)) (d : PyData) : Except (Str × Int) PyData := if isSorting n rows d then .ok (dRows (mirT n (toT d))) else .error ("sorting", -1)
def In10 (n : Int) (rows : List (List Int)) : Prop := RowsIn n rows ∧ 0 ≤ n ∧ n ≤ 10
theorem srtQ {X : Cx} (K : PySem.W.Frag) (h : X.K = K := by rfl) : CallR X (.builtin "sorted") (rSortU K 2 64) := h ▸ cr_sortT (by decide)
theorem RpAll.perm {K : PySem.W.Frag} {H : Hp} {xs ys : List V} (p : ys.Perm xs) : ∀ {ds : List PyData}, RpAll K H xs ds → ∃ es, es.Perm ds ∧ RpAll K H ys es := by
  induction p with
  | nil => intro ds h; exact ⟨ds, .refl _, h⟩
  | cons x p ih =>
    intro ds h
    cases h with
    | cons a b =>
      obtain ⟨es, h1, h2⟩ := ih b
      exact ⟨_ :: es, h1.cons _, .cons a h2⟩
  | swap x y l =>
    intro ds h
    cases h with
    | cons a b =>
      cases b with
      | cons c b => exact ⟨_ :: _ :: _, .swap _ _ _, .cons c (.cons a b)⟩
  | trans p q ih1 ih2 =>
    intro ds h
    obtain ⟨es, h1, h2⟩ := ih2 h
    obtain ⟨fs, h3, h4⟩ := ih1 h2
    exact ⟨fs, h3.trans h1, h4⟩
theorem perm_rows {es : List PyData} : ∀ {T : List (List Int)}, es.Perm (T.map dTup) → ∃ T' : List (List Int), T'.Perm T ∧ es = T'.map dTup := by
  intro T h
  have h2 : ∀ e ∈ es, ∃ t ∈ T, e = dTup t := fun e he => by
    obtain ⟨t, ht, rfl⟩ := List.mem_map.mp (h.mem_iff.mp he)
    exact ⟨t, ht, rfl⟩
  refine ⟨es.map dInts, ?_, ?_⟩
  · have := h.map dInts
    rw [List.map_map] at this
    have e : T.map (dInts ∘ dTup) = T := by
      exact (List.map_congr_left (f := dInts ∘ dTup) (g := id) fun t _ => dInts_tup t).trans (List.map_id _)
    rw [e] at this
    exact this
  · rw [List.map_map]
    symm
    exact (List.map_congr_left (f := dTup ∘ dInts) (g := id) fun e he => by obtain ⟨t, _, rfl⟩ := h2 e he; show dTup (dInts (dTup t)) = dTup t; rw [dInts_tup]).trans (List.map_id _)
theorem RpAll.pw {K : PySem.W.Frag} {H : Hp} {R : V → V → Prop} {S : PyData → PyData → Prop} (hRS : ∀ x y d e, Rp K H x d → Rp K H y e → R x y → S d e) : ∀ {xs : List V} {ds : List PyData}, RpAll K H xs ds → xs.Pairwise R → ds.Pairwise S
  | _, _, .nil, _ => .nil
  | _, _, .cons a b, h => by
    obtain ⟨h1, h2⟩ := List.pairwise_cons.mp h
    refine List.pairwise_cons.mpr ⟨fun e he => ?_, RpAll.pw hRS b h2⟩
    obtain ⟨i, hi⟩ := List.getElem?_of_mem he
    obtain ⟨v, hv, rv⟩ := b.getD hi
    exact hRS _ _ _ _ a rv (h1 v (List.mem_of_getElem? hv))
theorem srtP_eq {T T' : List (List Int)} (p : T'.Perm T) (h : T'.Pairwise fun a b => cdT a ≤ cdT b) (inj : ∀ a ∈ T, ∀ b ∈ T, cdT a = cdT b → a = b) : T' = srtP T := by
  refine List.Perm.eq_of_pairwise (le := fun a b => cdT a ≤ cdT b) (fun a b ha hb h1 h2 => inj a (p.mem_iff.mp ha) b ?_ (by omega)) h ?_ (p.trans (List.mergeSort_perm _ _).symm)
  · exact (List.mergeSort_perm _ _).mem_iff.mp hb
  · have := List.pairwise_mergeSort (le := fun a b => decide (cdT a ≤ cdT b)) (fun a b c h1 h2 => by simp at *; omega) (fun a b => by simp; omega) T
    exact this.imp fun h => by simpa using h
theorem nodup_leT : ∀ {l m : List (List Int)}, l.Nodup → l ⊆ m → l.length ≤ m.length
  | [], m, _, _ => Nat.zero_le _
  | a :: l, m, n, h => by
    have hn := List.nodup_cons.mp n
    have ha : a ∈ m := h (by simp)
    have hs : l ⊆ m.erase a := fun z hz => (List.mem_erase_of_ne (fun e : z = a => hn.1 (by rw [← e]; exact hz))).mpr (h (by simp [hz]))
    have ih := nodup_leT hn.2 hs
    rw [List.length_erase_of_mem ha] at ih
    have : 0 < m.length := List.length_pos_of_mem ha
    rw [List.length_cons]
    omega
theorem tri10 : ∀ n : Fin 11, ((List.range n.val).map fun x => n.val - 1 - x).sum ≤ 45 := by decide +kernel
theorem tiesL_len10 {n : Int} (rows : List (List Int)) (h : n ≤ 10) : (tiesL n rows).length ≤ 45 := by
  unfold tiesL
  rw [List.length_flatMap]
  have h1 := sum_le (f := fun x => (tiesAt n rows x).length) (g := fun x => n.toNat - 1 - x) (List.range n.toNat) fun x _ => tiesAt_len n rows x
  exact Nat.le_trans h1 (tri10 ⟨n.toNat, by omega⟩)
theorem tiesIn_sub {n : Int} {rows T : List (List Int)} (h : TiesIn n rows T) : T ⊆ tiesL n rows := fun t ht => by
  obtain ⟨lo, hi, rfl, h1, h2, h3⟩ := h.1 t ht
  exact in_tiesL h1 h2 h3
theorem tiesIn_len {n : Int} {rows T : List (List Int)} (h : TiesIn n rows T) (h1 : n ≤ 10) : T.length ≤ 45 := Nat.le_trans (nodup_leT h.2 (tiesIn_sub h)) (tiesL_len10 rows h1)
theorem code_two (a b : Int) : cdT [a, b] = a * 64 + b := code_pair a b
section
variable {P : Program} {w : World} {K : PySem.W.Frag} {mg : Str → Option Value} {base : Heap} {ad : Nat → Addr} {fd : Nat → FuncData}
theorem ok_mirrored_sorting (T : Txt K mg ad fd) : FnOk P w K mg base (L2.CX P w) 9 (ad 50) (fd 50) ["book", "sorting"] (spX K (ad 18) (fun n rows _ => In10 n rows) mirroredSX) := by
  refine T.F_mirrored_sorting.okX sc_mirrored_sorting (fun vs H Q E h => ?_) (fun cdv A outer s H vs Q E hr h => ?_)
  · obtain ⟨v, u, d, n, rows, rfl, _⟩ := h
    rfl
  · obtain ⟨v, u, d, n, rows, rfl, h, hu, ⟨hin, hn0, hn1⟩, k⟩ := h
    refine ⟨_, (pss_cons (ps_expr (pe_call (ok_need T) (hr.mono (by decide)) rfl T.m_need T.F_need.kp (b_need T) .nil (passes_call (takes_of rfl rfl rfl rfl) fun _ _ _ _ h => h) (pa_cons (pe_call (ok_is_sorting T) (hr.mono (by decide)) rfl T.m_is_sorting T.F_is_sorting.kp (b_is_sorting T) .nil pass0 (pa_cons (pv 0) (pa_cons (pv 1) pa_nil))) (pa_cons pe_str pa_nil))))
  (pss_cons (ps_set (i := 2) sc_mirrored_sorting.nd rfl (Or.inr rfl) (pe_op op_sub (pe_ix (ixT K) (pv 0) pe_int (fun _ _ => rfl)) pe_int))
  (pss_one (ps_ret (pe_callTy (tupOf K) (by rfl) T.g_tuple (by decide +kernel) (pa_cons (pe_callB (srtQ K) (by rfl) T.g_sorted (by decide +kernel) (pa_cons (pe_lc (own := [("low", 3), ("high", 4)]) (g := gTup K 2 (gCons (gName 3) (gCons (gName 4) gNil))) rfl sc_mirrored_sorting.nd (piT K (pv 1)) (blkOk_by (N := ["book", "sorting", "last", "low", "high"]) (sc := defScope s_mirrored_sorting) (by decide +kernel)) (fun _ _ _ _ _ => (pgT K (n := 2) rfl (pgs_cons (pg_name (i := 3) (x := "low") sc_mirrored_sorting.nd rfl (Or.inl rfl)) (pgs_cons (pg_name (i := 4) (x := "high") sc_mirrored_sorting.nd rfl (Or.inl rfl)) pgs_nil)))) (fun _ _ _ _ _ => pts_nil) (fun _ _ _ _ _ => (pe_tup (pa_cons (pe_op op_sub (pv 2) (pv 4)) (pa_cons (pe_op op_sub (pv 2) (pv 3)) pa_nil))))) pa_nil)) pa_nil)))))), ?_⟩
    refine ⟨_, rfl, _, rfl, v, u, d, n, rows, rfl, h, hu, hin, hn0, by omega, fun H1 s1 => ?_⟩
    cases e : isSorting n rows d with
    | false =>
      have ek : mirroredSX n rows d = .error ("sorting", -1) := by simp [mirroredSX, e]
      rw [ek] at k
      exact ⟨false, _, rfl, (fun z => by cases z), fun _ => k.same s1⟩
    | true =>
      have ek : mirroredSX n rows d = .ok (dRows (mirT n (toT d))) := by simp [mirroredSX, e]
      rw [ek] at k
      obtain ⟨ed, hT, hac⟩ := isSorting_in e
      have hu1 := hu.same s1
      rw [ed] at hu1
      have hlen := tiesIn_len hT hn1
      refine ⟨true, _, rfl, (fun _ => ?_), fun z => by cases z⟩
      have hb0 := h.same s1
      obtain ⟨b, L, xs, rfl, hb, hL, hz, hr2⟩ := rp_book hb0
      refine ⟨_, rfl, _, _, _, _, rfl, rfl, hb, rfl, _, _, rfl, rfl, ?_⟩
      cases hu1 with
      | @tup tt xs ds st lt rt =>
      have lx : xs.length = (toT d).length := by rw [rt.length, List.length_map]
      refine ⟨_, rfl, tt, rfl, ⟨_, st⟩, fun D2 hD2 => ?_⟩
      refine lcT (K := K) (xs := xs) (fun _ => true) (fun j => dTup [n - 1 - ((toT d).getD j []).getD 1 0, n - 1 - ((toT d).getD j []).getD 0 0]) hD2 st lt (fun _ _ _ => noL_dTup _) (fun i x H3 hi s3 Q1 Q2 k1 k2 => ?_) (fun ys H3 s3 hy r3 => ?_)
      · obtain ⟨t, a2, hn, rfl, tt2⟩ := rt.row hi
        have tt2 := tt2.same s3
        have en : (toT d).getD i [] = t := by rw [List.getD_eq_getElem?_getD, hn]; rfl
        rw [en] at k1
        obtain ⟨lo, hi2, et, hlt, hhn, _⟩ := hT.1 t (List.mem_of_getElem? hn)
        subst et
        refine ⟨a2, _, rfl, tt2.1, rfl, _, _, rfl, _, _, rfl, rfl, rfl, ?_⟩
        refine ⟨_, rfl, _, rfl, _, _, rfl, rfl, _, rfl, _, rfl, _, _, rfl, rfl, (by show 2 ≤ sizeLine; decide), fun z hz4 => ?_⟩
        exact k1 rfl _ _ (same_upd hz4) (TupI.rp (ns := [n - 1 - (hi2 : Int), n - 1 - (lo : Int)]) ⟨SqT.of upd_same, by show 2 ≤ 1000; decide⟩)
      · rw [filter_true] at r3
        have ez : (List.range xs.length).map (fun j => dTup [n - 1 - ((toT d).getD j []).getD 1 0, n - 1 - ((toT d).getD j []).getD 0 0]) = ((toT d).map fun t => [n - 1 - t.getD 1 0, n - 1 - t.getD 0 0]).map dTup := by
          rw [lx, List.map_map]
          exact map_range (fun t : List Int => dTup [n - 1 - t.getD 1 0, n - 1 - t.getD 0 0]) [] (toT d)
        rw [ez] at r3
        generalize hM : ((toT d).map fun t => [n - 1 - t.getD 1 0, n - 1 - t.getD 0 0]) = M at *
        have hMin : ∀ t ∈ M, ∃ a b : Int, t = [a, b] ∧ (0 ≤ a ∧ a < 64) ∧ (0 ≤ b ∧ b < 64) := fun t ht => by
          rw [← hM] at ht
          obtain ⟨t0, h0, rfl⟩ := List.mem_map.mp ht
          obtain ⟨lo, hi2, rfl, hlt, hhn, _⟩ := hT.1 t0 h0
          exact ⟨n - 1 - (hi2 : Int), n - 1 - (lo : Int), rfl, by omega, by omega⟩
        have lM : M.length = (toT d).length := by rw [← hM, List.length_map]
        have ly : ys.length = M.length := by rw [r3.length, List.length_map]
        dsimp only [tNil]
        refine ⟨D2, ys, rfl, SqL.of hy, by omega, fun x hx => ?_, fun zs p hp hpw hq => ?_⟩
        · obtain ⟨i, hi⟩ := List.getElem?_of_mem hx
          obtain ⟨t, a2, hn, rfl, tt2⟩ := r3.row hi
          obtain ⟨a, b, rfl, h1, h2⟩ := hMin t (List.mem_of_getElem? hn)
          refine ⟨[a, b], ⟨a2, rfl, tt2.1⟩, rfl, fun m hm => ?_⟩
          rcases List.mem_cons.mp hm with rfl | hm
          · exact h1
          · rw [List.mem_singleton.mp hm]
            exact h2
        · obtain ⟨es, he1, he2⟩ := r3.perm hp
          obtain ⟨T', hT1, rfl⟩ := perm_rows he1
          have hpw2 := RpAll.pw (S := fun d e => ∀ a b, d = dTup a → e = dTup b → cdT a ≤ cdT b) (fun x y d1 e1 rx ry hxy a b ha hb => by
            subst ha hb
            obtain ⟨a1, rfl, t1⟩ := rx.tupI
            obtain ⟨b1, rfl, t2⟩ := ry.tupI
            exact hxy a b ⟨a1, rfl, t1.1⟩ ⟨b1, rfl, t2.1⟩) he2 hpw
          have hpw3 : T'.Pairwise fun a b => cdT a ≤ cdT b := by
            rw [List.pairwise_map] at hpw2
            exact hpw2.imp fun h => h _ _ rfl rfl
          have eT := srtP_eq hT1 hpw3 (fun a ha b hb hab => by
            obtain ⟨a1, a2, rfl, h1, h2⟩ := hMin a ha
            obtain ⟨b1, b2, rfl, h3, h4⟩ := hMin b hb
            rw [code_two, code_two] at hab
            have e1 : a1 = b1 := by omega
            have e2 : a2 = b2 := by omega
            rw [e1, e2])
          subst eT
          have s4 : Same H (upd H3 p (.lst zs)) := (s1.trans s3).trans (same_upd hq)
          refine tupL_use (SqL.of upd_same) fun p2 H5 s5 hp2 => k _ _ (s4.trans s5) ?_
          have em : mirT n (toT d) = srtP M := by unfold mirT; rw [hM]
          rw [em]
          exact .tup hp2 (by rw [hp.length_eq]; omega) ((he2.same (same_upd hq)).same s5)
end
end LK
namespace LK
open PySem PySem.Spec PyProof.Rows L2
def idxL (line l : List Int) : List Int := l.map fun x => ((line.idxOf x : Nat) : Int)
noncomputable def rebasedSX (n : Int) (rows : List (List Int)) (d e : PyData) : Except (Str × Int) PyData :=
  if isSorting n rows d then (if isLine n e then .ok (dRows (fitT n (renum (dInts e) rows) (idxL (dInts e) (lineT n rows (toT d))))) else .error ("line", -1)) else .error ("sorting", -1)
noncomputable def carriedX (n : Int) (rows : List (List Int)) (d e : PyData) : Except (Str × Int) PyData :=
  if isSorting n rows d then (if isBook e && decide (bSize e = n) then .ok (dRows (fitT n (bRows e) (lineT n rows (toT d)))) else .error ("other", -1)) else .error ("sorting", -1)
theorem lineT_spec {n : Int} {rows T : List (List Int)} (hn : 0 ≤ n) (ha : Acyc (ledM n rows T)) : (lineT n rows T).Nodup ∧ ((lineT n rows T).length : Int) = n ∧ (∀ x : Int, x ∈ lineT n rows T ↔ (0 ≤ x ∧ x < n)) := by
  obtain ⟨h1, h2, _⟩ := lineN_spec ha
  rw [ledM_length] at h1
  have nd : (lineT n rows T).Nodup := by
    unfold lineT natI
    exact List.Pairwise.map _ (fun a b (h : a ≠ b) => by omega) h2
  have hm : ∀ x : Int, x ∈ lineT n rows T ↔ (0 ≤ x ∧ x < n) := fun x => by
    constructor
    · intro hx
      have hx2 := hx
      unfold lineT natI at hx2
      obtain ⟨y, hy, rfl⟩ := List.mem_map.mp hx2
      have := (h1 y).mp hy
      omega
    · rintro ⟨h3, h4⟩
      have e : x = ((x.toNat : Nat) : Int) := by omega
      rw [e]
      unfold lineT
      exact natI_mem.mpr ((h1 _).mpr (by omega))
  refine ⟨nd, ?_, hm⟩
  have hr : ((List.range n.toNat).map fun i : Nat => (i : Int)).Nodup := List.Pairwise.map _ (fun a b (h : a ≠ b) => by omega) List.nodup_range
  have l1 := nodup_le nd (m := (List.range n.toNat).map fun i : Nat => (i : Int)) (fun x hx => by
    have := (hm x).mp hx
    exact List.mem_map.mpr ⟨x.toNat, List.mem_range.mpr (by omega), by omega⟩)
  have l2 := nodup_le hr (m := lineT n rows T) (fun x hx => by
    obtain ⟨i, hi, rfl⟩ := List.mem_map.mp hx
    have := List.mem_range.mp hi
    exact (hm _).mpr ⟨by omega, by omega⟩)
  rw [List.length_map, List.length_range] at l1 l2
  omega
theorem idxOf_inj {l : List Int} {x y : Int} (hx : x ∈ l) (hy : y ∈ l) (h : l.idxOf x = l.idxOf y) : x = y := by
  have h1 : l[l.idxOf x]'(List.idxOf_lt_length_iff.mpr hx) = x := List.getElem_idxOf _
  have h2 : l[l.idxOf y]'(List.idxOf_lt_length_iff.mpr hy) = y := List.getElem_idxOf _
  rw [← h1, ← h2]
  congr 1
theorem idxL_spec {n : Int} {line l : List Int} (nd : line.Nodup) (hlen : (line.length : Int) = n) (hb : ∀ x ∈ line, 0 ≤ x ∧ x < n) (hn : l.Nodup) (hl : (l.length : Int) = n) (hm : ∀ x : Int, x ∈ l ↔ (0 ≤ x ∧ x < n)) :
    (idxL line l).Nodup ∧ ((idxL line l).length : Int) = n ∧ (∀ x ∈ idxL line l, 0 ≤ x ∧ x < n) := by
  have hall : ∀ x ∈ l, x ∈ line := fun x hx => line_all nd hb hlen ((hm x).mp hx).1 ((hm x).mp hx).2
  refine ⟨?_, by unfold idxL; rw [List.length_map]; exact hl, fun x hx => ?_⟩
  · unfold idxL
    rw [List.nodup_iff_pairwise_ne, List.pairwise_map]
    refine List.Pairwise.imp_of_mem (R := fun a b => a ≠ b) (fun ha hb hab z => hab (idxOf_inj (hall _ ha) (hall _ hb) (by omega))) hn
  · unfold idxL at hx
    obtain ⟨y, hy, rfl⟩ := List.mem_map.mp hx
    have := List.idxOf_lt_length_iff.mpr (hall y hy)
    omega
theorem renum_in {n : Int} {line : List Int} {rows : List (List Int)} (hin : RowsIn n rows) (hlen : (line.length : Int) = n) (hall : ∀ x : Int, 0 ≤ x → x < n → x ∈ line) : RowsIn n (renum line rows) := by
  intro r hr x hx
  unfold renum at hr
  obtain ⟨r0, hr0, rfl⟩ := List.mem_map.mp hr
  have hx := (srt_perm _).mem_iff.mp hx
  obtain ⟨y, hy, rfl⟩ := List.mem_map.mp hx
  have h2 := hin r0 hr0 y hy
  have := List.idxOf_lt_length_iff.mpr (hall y h2.1 h2.2)
  omega
theorem isBook_rows {d : PyData} (h : isBook d = true) : RowsIn (bSize d) (bRows d) := by
  match d, h with
  | .tuple [.int n, .tuple ls], h =>
    unfold isBook at h
    rw [Bool.and_eq_true] at h
    intro r hr x hx
    obtain ⟨e, he, rfl⟩ := List.mem_map.mp (show r ∈ ls.map dInts from hr)
    have h2 := List.all_eq_true.mp h.2 e he
    unfold isListed isLot at h2
    rw [Bool.and_eq_true, Bool.and_eq_true] at h2
    have h3 := h2.1.1
    rw [areBelow_tup h3] at h3
    replace h3 : ((dInts e).map PyData.int).all (isBelow n) = true := h3
    rw [List.all_map] at h3
    have := List.all_eq_true.mp h3 x hx
    simpa [isBelow, bSize] using this
section
variable {P : Program} {w : World} {K : PySem.W.Frag} {mg : Str → Option Value} {base : Heap} {ad : Nat → Addr} {fd : Nat → FuncData}
theorem ok_carried (T : Txt K mg ad fd) : FnOk P w K mg base (L2.CX P w) 10 (ad 52) (fd 52) ["book", "sorting", "other"] (spX2 K (ad 18) In45 carriedX) := by
  refine T.F_carried.okX sc_carried (fun vs H Q E h => ?_) (fun cdv A outer s H vs Q E hr h => ?_)
  · obtain ⟨v, u1, u2, d1, d2, n, rows, rfl, _⟩ := h
    rfl
  · obtain ⟨v, u1, u2, d1, d2, n, rows, rfl, h, hu, hl, ⟨hin, hn0, hn1⟩, k⟩ := h
    refine ⟨_, (pss_cons (ps_expr (pe_call (ok_need T) (hr.mono (by decide)) rfl T.m_need T.F_need.kp (b_need T) .nil (passes_call (takes_of rfl rfl rfl rfl) fun _ _ _ _ h => h) (pa_cons (pe_call (ok_is_sorting T) (hr.mono (by decide)) rfl T.m_is_sorting T.F_is_sorting.kp (b_is_sorting T) .nil pass0 (pa_cons (pv 0) (pa_cons (pv 1) pa_nil))) (pa_cons pe_str pa_nil))))
  (pss_cons (ps_expr (pe_call (ok_need T) (hr.mono (by decide)) rfl T.m_need T.F_need.kp (b_need T) .nil (passes_call (takes_of rfl rfl rfl rfl) fun _ _ _ _ h => h) (pa_cons (pe_and (pe_call (ok_is_book T) (hr.mono (by decide)) rfl T.m_is_book T.F_is_book.kp (b_is_book T) .nil pass0 (pa_cons (pv 2) pa_nil)) (pe_one (pe_cmpR op_eq (pe_ix (ixT K) (pv 2) pe_int (fun _ _ => rfl)) (pe_ix (ixT K) (pv 0) pe_int (fun _ _ => rfl)) (nomark _)))) (pa_cons pe_str pa_nil))))
  (pss_one (ps_ret (pe_call (ok_fitted T) (hr.mono (by decide)) rfl T.m_fitted T.F_fitted.kp (b_fitted T) .nil pass0 (pa_cons (pv 2) (pa_cons (pe_call (ok_line_of T) (hr.mono (by decide)) rfl T.m_line_of T.F_line_of.kp (b_line_of T) .nil (passes_call (takes_of rfl rfl rfl rfl) fun _ _ _ _ h => h) (pa_cons (pv 0) (pa_cons (pv 1) pa_nil))) pa_nil))))))), ?_⟩
    refine ⟨_, rfl, _, rfl, v, u1, d1, n, rows, rfl, h, hu, hin, hn0, hn1, fun H1 s1 => ?_⟩
    cases e : isSorting n rows d1 with
    | false =>
      have ek : carriedX n rows d1 d2 = .error ("sorting", -1) := by simp [carriedX, e]
      rw [ek] at k
      exact ⟨false, _, rfl, (fun z => by cases z), fun _ => k.same s1⟩
    | true =>
      obtain ⟨ed, hT, hac⟩ := isSorting_in e
      have hu1 := hu.same s1
      refine ⟨true, _, rfl, (fun _ => ?_), fun z => by cases z⟩
      have hb0 := h.same s1
      have hbk := h
      refine ⟨_, rfl, u2, d2, rfl, hl.same s1, fun H2 s2 => ⟨_, rfl, ?_⟩⟩
      cases e2 : isBook d2 with
      | false =>
        have ek : carriedX n rows d1 d2 = .error ("other", -1) := by simp [carriedX, e, e2]
        rw [ek] at k
        exact iteF ⟨false, _, rfl, (fun z => by cases z), fun _ => k.same (s1.trans s2)⟩
      | true =>
        have ed2 := isBook_eq e2
        have hl2 := hl.same (s1.trans s2)
        rw [ed2] at hl2
        have hl3 := hl2
        have hb2 := h.same (s1.trans s2)
        obtain ⟨b, L, xs, rfl, hb, hL, hz, hr2⟩ := rp_book hb2
        obtain ⟨b2, L2, xs2, rfl, hb22, hL2, hz2, hr22⟩ := rp_book hl2
        refine iteT ⟨_, rfl, _, _, _, _, rfl, rfl, hb22, rfl, _, rfl, _, _, _, _, rfl, rfl, hb, rfl, ?_⟩
        refine ⟨rfl, _, _, rfl, (fun hc => ?_), fun hc => ?_⟩
        rotate_left
        · have hne : ¬ bSize d2 = n := fun z => by
            have hc : decide (V.int (bSize d2) = V.int n) = false := hc
            rw [z] at hc
            simp at hc
          have ek : carriedX n rows d1 d2 = .error ("other", -1) := by simp [carriedX, e, e2, hne]
          rw [ek] at k
          exact k.same (s1.trans s2)
        · have heq : bSize d2 = n := by
            have hc : decide (V.int (bSize d2) = V.int n) = true := hc
            have := of_decide_eq_true hc
            injection this
          have hin2 := isBook_rows e2
          rw [heq] at hin2 hl3
          have ek : carriedX n rows d1 d2 = .ok (dRows (fitT n (bRows d2) (lineT n rows (toT d1)))) := by simp [carriedX, e, e2, heq]
          rw [ek] at k
          obtain ⟨q1, q2, q3⟩ := lineT_spec hn0 hac
          have elo : lineOfX n rows d1 = .ok (dTup (lineT n rows (toT d1))) := by simp [lineOfX, e]
          refine ⟨_, rfl, _, rfl, _, rfl, _, u1, d1, n, rows, rfl, hbk.same (s1.trans s2), hu.same (s1.trans s2), ⟨hin, hn0, hn1⟩, ?_⟩
          rw [elo]
          intro v3 H3 s3 r3
          obtain ⟨a3, rfl, t3⟩ := r3.tupI
          exact ⟨_, a3, n, bRows d2, lineT n rows (toT d1), rfl, hl3.same s3, .inr t3.1, t3.2, q1, hin2, hn0, hn1, fun x h0 h1 => (q3 x).mpr ⟨h0, h1⟩, fun u H' s' r => k u H' (((s1.trans s2).trans s3).trans s') r⟩
theorem ok_rebased_sorting (T : Txt K mg ad fd) : FnOk P w K mg base (L2.CX P w) 10 (ad 51) (fd 51) ["book", "sorting", "line"] (spX2 K (ad 18) In45 rebasedSX) := by
  refine T.F_rebased_sorting.okX sc_rebased_sorting (fun vs H Q E h => ?_) (fun cdv A outer s H vs Q E hr h => ?_)
  · obtain ⟨v, u1, u2, d1, d2, n, rows, rfl, _⟩ := h
    rfl
  · obtain ⟨v, u1, u2, d1, d2, n, rows, rfl, h, hu, hl, ⟨hin, hn0, hn1⟩, k⟩ := h
    refine ⟨_, (pss_cons (ps_expr (pe_call (ok_need T) (hr.mono (by decide)) rfl T.m_need T.F_need.kp (b_need T) .nil (passes_call (takes_of rfl rfl rfl rfl) fun _ _ _ _ h => h) (pa_cons (pe_call (ok_is_sorting T) (hr.mono (by decide)) rfl T.m_is_sorting T.F_is_sorting.kp (b_is_sorting T) .nil pass0 (pa_cons (pv 0) (pa_cons (pv 1) pa_nil))) (pa_cons pe_str pa_nil))))
  (pss_cons (ps_expr (pe_call (ok_need T) (hr.mono (by decide)) rfl T.m_need T.F_need.kp (b_need T) .nil (passes_call (takes_of rfl rfl rfl rfl) fun _ _ _ _ h => h) (pa_cons (pe_call (ok_is_line T) (hr.mono (by decide)) rfl T.m_is_line T.F_is_line.kp (b_is_line T) .nil pass0 (pa_cons (pe_ix (ixT K) (pv 0) pe_int (fun _ _ => rfl)) (pa_cons (pv 2) pa_nil))) (pa_cons pe_str pa_nil))))
  (pss_cons (ps_set (i := 3) sc_rebased_sorting.nd rfl (Or.inr rfl) (pe_dc (own := [("k", 6), ("thing", 5)]) (g := gTup K 2 (gCons (gName 6) (gCons (gName 5) gNil))) rfl sc_rebased_sorting.nd (pi_enumA (K := K) rfl T.g_enumerate (pa_cons (pv 2) pa_nil)) (blkOk_by (N := ["book", "sorting", "line", "numbers", "fitting", "thing", "k"]) (sc := defScope s_rebased_sorting) (by decide +kernel)) (fun _ _ _ _ _ => (pgT K (n := 2) rfl (pgs_cons (pg_name (i := 6) (x := "k") sc_rebased_sorting.nd rfl (Or.inl rfl)) (pgs_cons (pg_name (i := 5) (x := "thing") sc_rebased_sorting.nd rfl (Or.inl rfl)) pgs_nil)))) (fun _ _ _ _ _ => pts_nil) (fun _ _ _ _ _ => (pv 5)) (fun _ _ _ _ _ => (pv 6))))
  (pss_cons (ps_setLc (i := 4) (own := [("thing", 5)]) (g := gName 5) rfl sc_rebased_sorting.nd rfl rfl (sw_true rfl rfl rfl (by decide +kernel)) (piT K (pe_call (ok_line_of T) (hr.mono (by decide)) rfl T.m_line_of T.F_line_of.kp (b_line_of T) .nil (passes_call (takes_of rfl rfl rfl rfl) fun _ _ _ _ h => h) (pa_cons (pv 0) (pa_cons (pv 1) pa_nil)))) (blkOk_by (N := ["book", "sorting", "line", "numbers", "fitting", "thing", "k"]) (sc := defScope s_rebased_sorting) (by decide +kernel)) (fun _ _ _ _ _ => (pg_name (i := 5) (x := "thing") sc_rebased_sorting.nd rfl (Or.inl rfl))) (fun _ _ _ _ _ => pts_nil) (fun _ _ _ _ _ => (pe_dget (hu_of hr) (pv 3) (pv 5) (fun _ _ => rfl))))
  (pss_one (ps_ret (pe_call (ok_fitted T) (hr.mono (by decide)) rfl T.m_fitted T.F_fitted.kp (b_fitted T) .nil pass0 (pa_cons (pe_call (ok_rebased T) (hr.mono (by decide)) rfl T.m_rebased T.F_rebased.kp (b_rebased T) .nil (passes_call (takes_of rfl rfl rfl rfl) fun _ _ _ _ h => h) (pa_cons (pv 0) (pa_cons (pv 2) pa_nil))) (pa_cons (pv 4) pa_nil))))))))), ?_⟩
    refine ⟨_, rfl, _, rfl, v, u1, d1, n, rows, rfl, h, hu, hin, hn0, hn1, fun H1 s1 => ?_⟩
    cases e : isSorting n rows d1 with
    | false =>
      have ek : rebasedSX n rows d1 d2 = .error ("sorting", -1) := by simp [rebasedSX, e]
      rw [ek] at k
      exact ⟨false, _, rfl, (fun z => by cases z), fun _ => k.same s1⟩
    | true =>
      obtain ⟨ed, hT, hac⟩ := isSorting_in e
      have hu1 := hu.same s1
      refine ⟨true, _, rfl, (fun _ => ?_), fun z => by cases z⟩
      have hbk := h
      have hb0 := h.same s1
      obtain ⟨b, L, xs, rfl, hb, hL, hz, hr2⟩ := rp_book hb0
      refine ⟨_, rfl, _, _, _, _, rfl, rfl, hb, rfl, _, rfl, n, u2, d2, rfl, hl.same s1, fun H2 s2 => ?_⟩
      cases e2 : isLine n d2 with
      | false =>
        have ek : rebasedSX n rows d1 d2 = .error ("line", -1) := by simp [rebasedSX, e, e2]
        rw [ek] at k
        exact ⟨false, _, rfl, (fun z => by cases z), fun _ => k.same (s1.trans s2)⟩
      | true =>
        obtain ⟨ed2, nd, hlen, hbl⟩ := isLine_in e2
        have ek : rebasedSX n rows d1 d2 = .ok (dRows (fitT n (renum (dInts d2) rows) (idxL (dInts d2) (lineT n rows (toT d1))))) := by simp [rebasedSX, e, e2]
        rw [ek] at k
        have hl0 := hl
        rw [ed2] at hl
        obtain ⟨a, rfl, ta⟩ := hl.tupI
        have s12 := s1.trans s2
        have ta2 := ta.same s12
        refine ⟨true, _, rfl, (fun _ => ?_), fun z => by cases z⟩
        generalize hline : dInts d2 = line at *
        refine ⟨_, rfl, a, line.map V.int, rfl, .inr ⟨ta2.1, fun D hD => dc_enum (K := K) (a := a) (line := line) hD ta2.2 nd _ (.inr ⟨rfl, ta2.1⟩) (fun i x TT H1 Q0 hx hT s1 _ Q1 q1 => ⟨TT, _, rfl, SqT.of upd_same, rfl, _, _, rfl, _, _, rfl, rfl, rfl, rfl, _, rfl, _, rfl, q1⟩) (fun _ _ _ _ hq h => hq _ _ h)
          (fun v σ1 H2 Q0 Q1 hq ⟨z1, z2, z3, z4, z5, z6, z7, z8, z9, z10, z11, z12, z13⟩ => ⟨z1, z2, z3, z4, z5, z6, z7, z8, z9, z10, z11, z12, hq _ _ z13⟩) (fun kvs H3 s3 hk dk => ?_)⟩⟩
        obtain ⟨q1, q2, q3⟩ := lineT_spec hn0 hac
        obtain ⟨p1, p2, p3⟩ := idxL_spec nd hlen hbl q1 q2 q3
        have elo : lineOfX n rows d1 = .ok (dTup (lineT n rows (toT d1))) := by simp [lineOfX, e]
        have s123 := s12.trans s3
        refine ⟨_, rfl, _, rfl, _, u1, d1, n, rows, rfl, hbk.same s123, hu.same s123, ⟨hin, hn0, hn1⟩, ?_⟩
        rw [elo]
        intro v4 H4 s4 r4
        obtain ⟨a4, rfl, t4⟩ := r4.tupI
        generalize hll : lineT n rows (toT d1) = ll at *
        refine ⟨a4, rfl, ⟨_, t4.1⟩, fun D4 hD4 => ?_⟩
        refine lcT (K := K) (xs := ll.map V.int) (fun _ => true) (fun j => .int ((line.idxOf (ll.getD j 0) : Nat) : Int)) hD4 t4.1 (by rw [List.length_map]; exact t4.2) (fun _ _ _ => rfl) (fun j v H5 hj s5 Q3 Q4 k3 k4 => ?_) (fun zs H5 s5 hz5 r5 => ?_)
        · obtain ⟨x, hx, rfl⟩ := intAt hj
          have ex : ll.getD j 0 = x := by rw [List.getD_eq_getElem?_getD, hx]; rfl
          rw [ex] at k3
          have hb2 := (q3 x).mp (List.mem_of_getElem? hx)
          have hm : x ∈ line := line_all nd hbl hlen hb2.1 hb2.2
          have hk3 := s5 _ _ (s4 _ _ hk)
          have hv : valV kvs (Sum.inl x) = some (V.int (line.idxOf x : Nat)) := by
            rw [dk.2, List.take_length, if_pos hm]
          exact ⟨rfl, _, rfl, _, rfl, _, _, rfl, .inl ⟨kvs, Sum.inl x, .inl hk3, rfl, hv.symm⟩, k3 rfl _ _ (Same.refl _) (.int _)⟩
        · rw [filter_true] at r5
          have ez : (List.range (ll.map V.int).length).map (fun j => PyData.int ((line.idxOf (ll.getD j 0) : Nat) : Int)) = (idxL line ll).map PyData.int := by
            rw [List.length_map]
            unfold idxL
            rw [List.map_map]
            exact map_range (fun x => PyData.int ((line.idxOf x : Nat) : Int)) 0 ll
          rw [ez] at r5
          have := r5.ofInts
          subst this
          have s15 := (s123.trans s4).trans s5
          have erb : rebasedB n rows d2 = .ok (bookD n (renum line rows)) := by simp [rebasedB, e2, hline]
          refine ⟨_, rfl, _, rfl, _, _, d2, n, rows, rfl, hbk.same s15, hl0.same s15, hin, ?_⟩
          rw [erb]
          intro v6 H6 s6 r6
          refine ⟨_, rfl, v6, D4, n, renum line rows, idxL line ll, rfl, r6, .inl (SqL.of (s6 _ _ hz5)), by omega, p1, renum_in hin hlen (fun x h0 h1 => line_all nd hbl hlen h0 h1), hn0, hn1, fun x h0 h1 => line_all p1 p3 p2 h0 h1, fun u H' s' r => k u H' ((s15.trans s6).trans s') r⟩
end
end LK
namespace LK
open PySem PySem.Spec PyProof.Rows L2
/-- a choice as a test -/
def tIfB (tc ta tb : TT) : TT := fun σ H Q => tc σ H fun c H1 => if c = true then ta σ H1 Q else tb σ H1 Q
theorem pt_ifExp {X : Cx} {c a b : Expr} {pos : Pos} {tc ta tb : TT} (hc : PT X c tc) (ha : PT X a ta) (hb : PT X b tb) : PT X (.IfExp c a b pos) (tIfB tc ta tb) := by
  constructor
  intro pn st σ H Q inv way
  show wpAny _ _ (PySem.isTrue _ _ _) _ _ _
  unfold PySem.isTrue
  refine wpAny_bind (thn (hc.run pn st σ H _ inv way) ?_)
  rintro (_ | _) s2 ⟨H2, inv2, way2⟩
  · exact hb.run pn s2 σ H2 Q inv2 way2
  · exact ha.run pn s2 σ H2 Q inv2 way2
end LK
namespace LK
open PySem PySem.Spec PyProof.Rows L2
def areTurned (T S : List (List Int)) : Bool := T.all fun t => decide (t ∈ S)
noncomputable def beneathX (n : Int) (rows : List (List Int)) (d e : PyData) : Except (Str × Int) PyData :=
  if isSorting n rows d then (if isSorting n rows e then .ok (.bool (areTurned (toT d) (toT e))) else .error ("other", -1)) else .error ("sorting", -1)
def spAre (K : PySem.W.Frag) : Sp := fun vs H Q _ => ∃ u1 u2 T S, vs = [u1, u2] ∧ Rp K H u1 (dRows T) ∧ Rp K H u2 (dRows S) ∧ ∀ H', Same H H' → Q (.bl (areTurned T S)) H'
def putT (n : Int) (rows T : List (List Int)) (x : Int) (side : Nat) : List (List Int) := (tiesL n rows).filter fun t => if decide (x ∈ t) then decide (t.getD side 0 = x) else decide (t ∈ T)
noncomputable def putX (side : Nat) (n : Int) (rows : List (List Int)) (d e : PyData) : Except (Str × Int) PyData :=
  if isSorting n rows d then (if isBelow n e then .ok (dRows (putT n rows (toT d) (toInt e) side)) else .error ("here", -1)) else .error ("sorting", -1)
def spPut (K : PySem.W.Frag) (C : Addr) : Sp := fun vs H Q E => ∃ v u1 u2 side d1 d2 n rows, vs = [v, u1, u2, .int (side : Nat)] ∧ side < 2 ∧ Rp K H v (bookD n rows) ∧ Rp K H u1 d1 ∧ Rp K H u2 d2 ∧ In45 n rows ∧ Out K C Q E H (putX side n rows d1 d2)
section
variable {P : Program} {w : World} {K : PySem.W.Frag} {mg : Str → Option Value} {base : Heap} {ad : Nat → Addr} {fd : Nat → FuncData}
theorem ok_are_turned (T : Txt K mg ad fd) : FnOk P w K mg base CX0 1 (ad 54) (fd 54) ["ties", "sorting"] (spAre K) := by
  refine T.F_are_turned.ok sc_are_turned (fun vs H Q E h => ?_) (fun cdv A outer s H vs Q E hr h => ?_)
  · obtain ⟨u1, u2, TT, S, rfl, _⟩ := h
    rfl
  · obtain ⟨u1, u2, TT, S, rfl, h1, h2, k⟩ := h
    refine ⟨_, (pss_one (ps_ret (pe_callB (allR K) (by rfl) T.g_all (by decide +kernel) (pa_cons (pe_lc (own := [("tie", 2)]) (g := gName 2) rfl sc_are_turned.nd (piT K (pv 0)) (blkOk_by (N := ["ties", "sorting", "tie"]) (sc := defScope s_are_turned) (by decide +kernel)) (fun _ _ _ _ _ => (pg_name (i := 2) (x := "tie") sc_are_turned.nd rfl (Or.inl rfl))) (fun _ _ _ _ _ => pts_nil) (fun _ _ _ _ _ => (pe_cmpR (inR K (hu65 hr)) (pv 2) (pv 1) (by with_unfolding_all rfl)))) pa_nil)))), ?_⟩
    cases h1 with
    | @tup tt xs ds st lt rt =>
    have lx : xs.length = TT.length := by rw [rt.length, List.length_map]
    refine ⟨_, rfl, tt, rfl, ⟨_, st⟩, fun D2 hD2 => ?_⟩
    refine lcT (K := K) (xs := xs) (fun _ => true) (fun j => .bool (decide (TT.getD j [] ∈ S))) hD2 st lt (fun _ _ _ => rfl) (fun i x H3 hi s3 Q1 Q2 k1 k2 => ?_) (fun ys H3 s3 hy r3 => ?_)
    · obtain ⟨t, a2, hn, rfl, ta⟩ := rt.row hi
      have ta := ta.same s3
      have en : TT.getD i [] = t := by rw [List.getD_eq_getElem?_getD, hn]; rfl
      rw [en] at k1
      exact ⟨rfl, _, rfl, _, rfl, t, S, ta.rp, h2.same s3, k1 rfl _ _ (Same.refl _) (.bl _)⟩
    · rw [filter_true] at r3
      have e := RpAll.ofBools (bs := (List.range xs.length).map fun j => decide (TT.getD j [] ∈ S)) (by rw [List.map_map]; exact r3)
      subst e
      refine ⟨_, _, rfl, SqL.of hy, ?_⟩
      rw [lx, all_range (fun t => decide (t ∈ S)) [] TT]
      exact k _ s3
theorem ok_is_beneath (T : Txt K mg ad fd) : FnOk P w K mg base (L2.CX P w) 9 (ad 55) (fd 55) ["book", "sorting", "other"] (spX2 K (ad 18) In45 beneathX) := by
  refine T.F_is_beneath.okX sc_is_beneath (fun vs H Q E h => ?_) (fun cdv A outer s H vs Q E hr h => ?_)
  · obtain ⟨v, u1, u2, d1, d2, n, rows, rfl, _⟩ := h
    rfl
  · obtain ⟨v, u1, u2, d1, d2, n, rows, rfl, h, hu, hl, ⟨hin, hn0, hn1⟩, k⟩ := h
    refine ⟨_, (pss_cons (ps_expr (pe_call (ok_need T) (hr.mono (by decide)) rfl T.m_need T.F_need.kp (b_need T) .nil (passes_call (takes_of rfl rfl rfl rfl) fun _ _ _ _ h => h) (pa_cons (pe_call (ok_is_sorting T) (hr.mono (by decide)) rfl T.m_is_sorting T.F_is_sorting.kp (b_is_sorting T) .nil pass0 (pa_cons (pv 0) (pa_cons (pv 1) pa_nil))) (pa_cons pe_str pa_nil))))
  (pss_cons (ps_expr (pe_call (ok_need T) (hr.mono (by decide)) rfl T.m_need T.F_need.kp (b_need T) .nil (passes_call (takes_of rfl rfl rfl rfl) fun _ _ _ _ h => h) (pa_cons (pe_call (ok_is_sorting T) (hr.mono (by decide)) rfl T.m_is_sorting T.F_is_sorting.kp (b_is_sorting T) .nil pass0 (pa_cons (pv 0) (pa_cons (pv 2) pa_nil))) (pa_cons pe_str pa_nil))))
  (pss_one (ps_ret (pe_call (ok_are_turned T) (hr.mono (by decide)) rfl T.m_are_turned T.F_are_turned.kp (b_are_turned T) .nil pass0 (pa_cons (pv 1) (pa_cons (pv 2) pa_nil))))))), ?_⟩
    refine ⟨_, rfl, _, rfl, v, u1, d1, n, rows, rfl, h, hu, hin, hn0, hn1, fun H1 s1 => ?_⟩
    cases e : isSorting n rows d1 with
    | false =>
      have ek : beneathX n rows d1 d2 = .error ("sorting", -1) := by simp [beneathX, e]
      rw [ek] at k
      exact ⟨false, _, rfl, (fun z => by cases z), fun _ => k.same s1⟩
    | true =>
      refine ⟨true, _, rfl, (fun _ => ?_), fun z => by cases z⟩
      refine ⟨_, rfl, _, rfl, v, u2, d2, n, rows, rfl, h.same s1, hl.same s1, hin, hn0, hn1, fun H2 s2 => ?_⟩
      cases e2 : isSorting n rows d2 with
      | false =>
        have ek : beneathX n rows d1 d2 = .error ("other", -1) := by simp [beneathX, e, e2]
        rw [ek] at k
        exact ⟨false, _, rfl, (fun z => by cases z), fun _ => k.same (s1.trans s2)⟩
      | true =>
        have ek : beneathX n rows d1 d2 = .ok (.bool (areTurned (toT d1) (toT d2))) := by simp [beneathX, e, e2]
        rw [ek] at k
        obtain ⟨ed, hT, hac⟩ := isSorting_in e
        obtain ⟨ed2, hT2, hac2⟩ := isSorting_in e2
        have hu1 := hu.same (s1.trans s2)
        have hl1 := hl.same (s1.trans s2)
        rw [ed] at hu1
        rw [ed2] at hl1
        refine ⟨true, _, rfl, (fun _ => ?_), fun z => by cases z⟩
        exact ⟨_, rfl, _, rfl, u1, u2, toT d1, toT d2, rfl, hu1, hl1, fun H3 s3 => k _ _ ((s1.trans s2).trans s3) (.bl _)⟩
theorem ok_put_at (T : Txt K mg ad fd) : FnOk P w K mg base (L2.CX P w) 9 (ad 57) (fd 57) ["book", "sorting", "here", "side"] (spPut K (ad 18)) := by
  refine T.F_put_at.okX sc_put_at (fun vs H Q E h => ?_) (fun cdv A outer s H vs Q E hr h => ?_)
  · obtain ⟨v, u1, u2, side, d1, d2, n, rows, rfl, _⟩ := h
    rfl
  · obtain ⟨v, u1, u2, side, d1, d2, n, rows, rfl, hside, h, hu, hl, ⟨hin, hn0, hn1⟩, k⟩ := h
    refine ⟨_, (pss_cons (ps_expr (pe_call (ok_need T) (hr.mono (by decide)) rfl T.m_need T.F_need.kp (b_need T) .nil (passes_call (takes_of rfl rfl rfl rfl) fun _ _ _ _ h => h) (pa_cons (pe_call (ok_is_sorting T) (hr.mono (by decide)) rfl T.m_is_sorting T.F_is_sorting.kp (b_is_sorting T) .nil pass0 (pa_cons (pv 0) (pa_cons (pv 1) pa_nil))) (pa_cons pe_str pa_nil))))
  (pss_cons (ps_expr (pe_call (ok_need T) (hr.mono (by decide)) rfl T.m_need T.F_need.kp (b_need T) .nil (passes_call (takes_of rfl rfl rfl rfl) fun _ _ _ _ h => h) (pa_cons (pe_call (ok_is_thing T) (hr.mono (by decide)) rfl T.m_is_thing T.F_is_thing.kp (b_is_thing T) .nil pass0 (pa_cons (pv 0) (pa_cons (pv 2) pa_nil))) (pa_cons pe_str pa_nil))))
  (pss_one (ps_ret (pe_callTy (tupOf K) (by rfl) T.g_tuple (by decide +kernel) (pa_cons (pe_lc (own := [("tie", 4)]) (g := gName 4) rfl sc_put_at.nd (piT K (pe_call (ok_ties_of T) (hr.mono (by decide)) rfl T.m_ties_of T.F_ties_of.kp (b_ties_of T) .nil pass0 (pa_cons (pv 0) pa_nil))) (blkOk_by (N := ["book", "sorting", "here", "side", "tie"]) (sc := defScope s_put_at) (by decide +kernel)) (fun _ _ _ _ _ => (pg_name (i := 4) (x := "tie") sc_put_at.nd rfl (Or.inl rfl))) (fun _ _ _ _ _ => (pts_one (pt_ifExp (pt_cmpR (inS K) (pv 2) (pv 4) (by with_unfolding_all rfl)) (pt_cmpR op_eq (pe_ix (ixT K) (pv 4) (pv 3) (fun _ _ => rfl)) (pv 2) (nomark _)) (pt_cmpR (inR K (hu65 hr)) (pv 4) (pv 1) (by with_unfolding_all rfl))))) (fun _ _ _ _ _ => (pv 4))) pa_nil)))))), ?_⟩
    refine ⟨_, rfl, _, rfl, v, u1, d1, n, rows, rfl, h, hu, hin, hn0, hn1, fun H1 s1 => ?_⟩
    cases e : isSorting n rows d1 with
    | false =>
      have ek : putX side n rows d1 d2 = .error ("sorting", -1) := by simp [putX, e]
      rw [ek] at k
      exact ⟨false, _, rfl, (fun z => by cases z), fun _ => k.same s1⟩
    | true =>
      refine ⟨true, _, rfl, (fun _ => ?_), fun z => by cases z⟩
      refine ⟨_, rfl, _, rfl, v, u2, d2, n, rows, rfl, h.same s1, hl.same s1, ?_⟩
      refine ⟨isBelow n d2, _, rfl, (fun e2 => ?_), fun e2 => ?_⟩
      rotate_left
      · have ek : putX side n rows d1 d2 = .error ("here", -1) := by simp [putX, e, e2]
        rw [ek] at k
        exact k.same s1
      · have ek : putX side n rows d1 d2 = .ok (dRows (putT n rows (toT d1) (toInt d2) side)) := by simp [putX, e, e2]
        rw [ek] at k
        obtain ⟨ed, hT, hac⟩ := isSorting_in e
        have hu1 := hu.same s1
        rw [ed] at hu1
        cases hl with
        | int x0 =>
          refine ⟨_, rfl, v, n, rows, rfl, h.same s1, hin, hn0, hn1, fun u3 H2 s2 ru => ?_⟩
          cases ru with
          | @tup tt xs ds st lt rt =>
          have lx : xs.length = (tiesL n rows).length := by rw [rt.length, List.length_map]
          have hx0 : toInt (.int x0) = x0 := rfl
          rw [hx0] at k
          refine ⟨tt, rfl, ⟨_, st⟩, fun D2 hD2 => ?_⟩
          refine lcT (K := K) (xs := xs) (fun j => if decide (x0 ∈ (tiesL n rows).getD j []) then decide (((tiesL n rows).getD j []).getD side 0 = x0) else decide ((tiesL n rows).getD j [] ∈ toT d1)) (fun j => dTup ((tiesL n rows).getD j [])) hD2 st lt (fun _ _ _ => noL_dTup _) (fun i x H3 hi s3 Q1 Q2 k1 k2 => ?_) (fun ys H3 s3 hy r3 => ?_)
          · obtain ⟨t, a2, hn, rfl, ta⟩ := rt.row hi
            have ta := ta.same s3
            have en : (tiesL n rows).getD i [] = t := by rw [List.getD_eq_getElem?_getD, hn]; rfl
            rw [en] at k1 k2
            obtain ⟨lo, hi2, et, hlt, hhn, _⟩ := tiesL_in (List.mem_of_getElem? hn)
            have htl : t.length = 2 := by rw [et]; rfl
            refine ⟨rfl, _, rfl, _, rfl, a2, _, rfl, .inr ta.1, rfl, flat_ints t, _, rfl, ?_⟩
            show if inV (.int x0) (t.map V.int) = true then _ else _
            rw [inV_int]
            cases c : decide (x0 ∈ t) with
            | true =>
              rw [c] at k1 k2
              have g1 : (t.map V.int)[side]? = some (.int (t.getD side 0)) := mapD (by omega)
              refine iteT ⟨_, rfl, _, rfl, _, _, _, _, rfl, rfl, ta.1, at_of (j := side) rfl g1, _, rfl, rfl, _, rfl, ?_⟩
              show if decide (V.int (t.getD side 0) = V.int x0) = true then _ else _
              by_cases c2 : t.getD side 0 = x0
              · rw [decide_eq_true (by rw [c2])]
                exact iteT ⟨_, rfl, k1 (by rw [if_pos rfl]; exact decide_eq_true c2) _ _ (Same.refl _) ta.rp⟩
              · rw [decide_eq_false (fun z => c2 (by injection z))]
                exact iteF (k2 (by rw [if_pos rfl]; exact decide_eq_false c2) _ (Same.refl _))
            | false =>
              rw [c] at k1 k2
              refine iteF ⟨_, rfl, _, rfl, t, toT d1, ta.rp, hu1.same (s2.trans s3), _, rfl, ?_⟩
              show if decide (t ∈ toT d1) = true then _ else _
              cases c2 : decide (t ∈ toT d1) with
              | true => exact iteT ⟨_, rfl, k1 (by rw [if_neg Bool.false_ne_true]; exact c2) _ _ (Same.refl _) ta.rp⟩
              | false => exact iteF (k2 (by rw [if_neg Bool.false_ne_true]; exact c2) _ (Same.refl _))
          · have ez : (((List.range xs.length).filter fun j => if decide (x0 ∈ (tiesL n rows).getD j []) then decide (((tiesL n rows).getD j []).getD side 0 = x0) else decide ((tiesL n rows).getD j [] ∈ toT d1)).map fun j => dTup ((tiesL n rows).getD j [])) = (putT n rows (toT d1) x0 side).map dTup := by
              rw [lx, filter_map_range (fun t : List Int => if decide (x0 ∈ t) then decide (t.getD side 0 = x0) else decide (t ∈ toT d1)) (fun t => dTup t) [] (tiesL n rows)]
              rfl
            rw [ez] at r3
            have ly : ys.length ≤ 1000 := by
              rw [r3.length, List.length_map]
              unfold putT
              exact Nat.le_trans (List.length_filter_le _ _) (by omega)
            dsimp only [tNil]
            refine tupL_use (SqL.of hy) fun p H4 s4 hp => ?_
            exact k _ _ (((s1.trans s2).trans s3).trans s4) (.tup hp ly (r3.same s4))
        | _ => simp [isBelow] at e2
theorem ok_put_first (T : Txt K mg ad fd) : FnOk P w K mg base (L2.CX P w) 10 (ad 58) (fd 58) ["book", "sorting", "here"] (spX2 K (ad 18) In45 (putX 1)) := by
  refine T.F_put_first.okX sc_put_first (fun vs H Q E h => ?_) (fun cdv A outer s H vs Q E hr h => ?_)
  · obtain ⟨v, u1, u2, d1, d2, n, rows, rfl, _⟩ := h
    rfl
  · obtain ⟨v, u1, u2, d1, d2, n, rows, rfl, h, hu, hl, hin, k⟩ := h
    refine ⟨_, (pss_one (ps_ret (pe_call (ok_put_at T) (hr.mono (by decide)) rfl T.m_put_at T.F_put_at.kp (b_put_at T) .nil (passes_call (takes_of rfl rfl rfl rfl) fun _ _ _ _ h => h) (pa_cons (pv 0) (pa_cons (pv 1) (pa_cons (pv 2) (pa_cons pe_int pa_nil))))))), ?_⟩
    exact ⟨_, rfl, _, rfl, _, rfl, v, u1, u2, 1, d1, d2, n, rows, rfl, by decide, h, hu, hl, hin, k⟩
theorem ok_put_last (T : Txt K mg ad fd) : FnOk P w K mg base (L2.CX P w) 10 (ad 59) (fd 59) ["book", "sorting", "here"] (spX2 K (ad 18) In45 (putX 0)) := by
  refine T.F_put_last.okX sc_put_last (fun vs H Q E h => ?_) (fun cdv A outer s H vs Q E hr h => ?_)
  · obtain ⟨v, u1, u2, d1, d2, n, rows, rfl, _⟩ := h
    rfl
  · obtain ⟨v, u1, u2, d1, d2, n, rows, rfl, h, hu, hl, hin, k⟩ := h
    refine ⟨_, (pss_one (ps_ret (pe_call (ok_put_at T) (hr.mono (by decide)) rfl T.m_put_at T.F_put_at.kp (b_put_at T) .nil (passes_call (takes_of rfl rfl rfl rfl) fun _ _ _ _ h => h) (pa_cons (pv 0) (pa_cons (pv 1) (pa_cons (pv 2) (pa_cons pe_int pa_nil))))))), ?_⟩
    exact ⟨_, rfl, _, rfl, _, rfl, v, u1, u2, 0, d1, d2, n, rows, rfl, by decide, h, hu, hl, hin, k⟩
end
end LK
namespace LK
open PySem PySem.Spec PyProof.Rows L2
/-- of how many of the row a thing is behind -/
def rankOf (ms : List Nat) (r : List Int) (x : Int) : Nat := (r.filter fun o => edgeB ms o.toNat x.toNat).length
def orderT (ms : List Nat) (r : List Int) : List Int := (srtP (r.map fun x => [((rankOf ms r x : Nat) : Int), x])).map fun t => t.getD 1 0
def spOrder (K : PySem.W.Frag) : Sp := fun vs H Q _ => ∃ (D a : Addr) (ms : List Nat) (r : List Int), vs = [.ref D, .ref a] ∧ SqL K H D ((natI ms).map V.int) ∧ TupI K H a r ∧ (∀ x ∈ r, 0 ≤ x ∧ x < (ms.length : Int)) ∧ ms.length ≤ 45 ∧ r.length ≤ 45 ∧ ∀ p H', Same H H' → TupI K H' p (orderT ms r) → Q (.ref p) H'
section
variable {P : Program} {w : World} {K : PySem.W.Frag} {mg : Str → Option Value} {base : Heap} {ad : Nat → Addr} {fd : Nat → FuncData}
theorem ok_order_in (T : Txt K mg ad fd) : FnOk P w K mg base CX0 1 (ad 61) (fd 61) ["out", "things"] (spOrder K) := by
  refine T.F_order_in.ok sc_order_in (fun vs H Q E h => ?_) (fun cdv A outer s H vs Q E hr h => ?_)
  · obtain ⟨D, a, ms, r, rfl, _⟩ := h
    rfl
  · obtain ⟨D, a, ms, r, rfl, hD, ha, hb, hz, hrz, k⟩ := h
    refine ⟨_, (pss_cons (ps_setLc (i := 2) (own := [("thing", 3)]) (g := gName 3) rfl sc_order_in.nd rfl rfl (sw_true rfl rfl rfl (by decide +kernel)) (piT K (pv 1)) (blkOk_by (N := ["out", "things", "ranks", "thing", "_", "other"]) (sc := defScope s_order_in) (by decide +kernel)) (fun _ _ _ _ _ => (pg_name (i := 3) (x := "thing") sc_order_in.nd rfl (Or.inr rfl))) (fun _ _ _ _ _ => pts_nil) (fun _ _ _ _ _ => (pe_tup (pa_cons (pe_callB (lenS K) (by rfl) T.g_len (by decide +kernel) (pa_cons (pe_lc (own := [("other", 5)]) (g := gName 5) rfl sc_order_in.nd (piT K (pv 1)) (blkOk_by (N := ["out", "things", "ranks", "thing", "_", "other"]) (sc := { kind := PySem.ScopeKind.function, names := [ (PySem.Str.ofString ".0", PySem.NameKind.local), (PySem.Str.ofString "thing", PySem.NameKind.cell), (PySem.Str.ofString "len", PySem.NameKind.globalImplicit), (PySem.Str.ofString "out", PySem.NameKind.cell), (PySem.Str.ofString "things", PySem.NameKind.cell)], isGenerator := false, isCoroutine := false, more := [] : PySem.Scope }) (by decide +kernel)) (fun _ _ _ _ _ => (pg_name (i := 5) (x := "other") sc_order_in.nd rfl (Or.inl rfl))) (fun _ _ _ _ _ => (pts_one (ptTru K (pe_op op_and (pe_op op_shr (pe_ix (ixL K) (pv 0) (pv 5) (fun _ _ => rfl)) (pv 3)) pe_int) (by intro _; rfl)))) (fun _ _ _ _ _ => (pv 5))) pa_nil)) (pa_cons (pv 3) pa_nil)))))
  (pss_one (ps_ret (pe_callTy (tupOf K) (by rfl) T.g_tuple (by decide +kernel) (pa_cons (pe_lc (own := [("_", 4), ("thing", 3)]) (g := gTup K 2 (gCons (gName 4) (gCons (gName 3) gNil))) rfl sc_order_in.nd (piL K (pe_callB (srtQ K) (by rfl) T.g_sorted (by decide +kernel) (pa_cons (pv 2) pa_nil))) (blkOk_by (N := ["out", "things", "ranks", "thing", "_", "other"]) (sc := defScope s_order_in) (by decide +kernel)) (fun _ _ _ _ _ => (pgT K (n := 2) rfl (pgs_cons (pg_name (i := 4) (x := "_") sc_order_in.nd rfl (Or.inl rfl)) (pgs_cons (pg_name (i := 3) (x := "thing") sc_order_in.nd rfl (Or.inl rfl)) pgs_nil)))) (fun _ _ _ _ _ => pts_nil) (fun _ _ _ _ _ => (pv 3))) pa_nil))))), ?_⟩
    refine ⟨_, rfl, a, rfl, ⟨_, ha.1⟩, fun D1 hD1 => ?_⟩
    refine lcT (K := K) (xs := r.map V.int) (fun _ => true) (fun j => dTup [((rankOf ms r (r.getD j 0) : Nat) : Int), r.getD j 0]) hD1 ha.1 (by rw [List.length_map]; exact ha.2) (fun _ _ _ => noL_dTup _) (fun i v H1 hi s1 Q1 Q2 k1 k2 => ?_) (fun ys H1 s1 hy r1 => ?_)
    · obtain ⟨x, hx, rfl⟩ := intAt hi
      have ex : r.getD i 0 = x := by rw [List.getD_eq_getElem?_getD, hx]; rfl
      have hbx := hb x (List.mem_of_getElem? hx)
      rw [ex] at k1
      have ha1 := ha.same s1
      refine ⟨rfl, _, rfl, a, rfl, ⟨_, ha1.1⟩, fun D2 hD2 => ?_⟩
      refine lcT (K := K) (xs := r.map V.int) (fun j => edgeB ms (r.getD j 0).toNat x.toNat) (fun j => .int (r.getD j 0)) hD2 ha1.1 (by rw [List.length_map]; exact ha.2) (fun _ _ _ => rfl) (fun j v H2 hj s2 Q3 Q4 k3 k4 => ?_) (fun zs H2 s2 hz2 r2 => ?_)
      · obtain ⟨o, ho, rfl⟩ := intAt hj
        have eo : r.getD j 0 = o := by rw [List.getD_eq_getElem?_getD, ho]; rfl
        have hbo := hb o (List.mem_of_getElem? ho)
        rw [eo] at k3 k4
        obtain ⟨on, rfl⟩ : ∃ m : Nat, o = (m : Int) := ⟨o.toNat, by omega⟩
        obtain ⟨xn, rfl⟩ : ∃ m : Nat, x = (m : Int) := ⟨x.toNat, by omega⟩
        have hol : on < ms.length := by omega
        have e1 : ((on : Int)).toNat = on := by omega
        have e2 : ((xn : Int)).toNat = xn := by omega
        refine ⟨rfl, _, rfl, _, rfl, D, _, _, _, rfl, rfl, (s1.trans s2).seq hD, atI_nat (natI_get (getD_some hol)), _, rfl, _, _, rfl, rfl, (by show (0 : Int) ≤ _; omega), _, _, rfl, rfl, _, rfl, ?_⟩
        show if (Builtin.bitAnd (((ms.getD on 0 : Nat) : Int) / 2 ^ ((xn : Int)).toNat) 1 != 0) = true then _ else _
        rw [bit_and1]
        rw [e1, e2] at k3 k4
        cases c : (ms.getD on 0).testBit xn with
        | true => exact iteT ⟨_, rfl, k3 c _ _ (Same.refl _) (.int _)⟩
        | false => exact iteF (k4 c _ (Same.refl _))
      · have ez : (((List.range (r.map V.int).length).filter fun j => edgeB ms (r.getD j 0).toNat x.toNat).map fun j => PyData.int (r.getD j 0)) = (r.filter fun o => edgeB ms o.toNat x.toNat).map PyData.int := by
          rw [List.length_map, filter_map_range (fun o : Int => edgeB ms o.toNat x.toNat) (fun o => PyData.int o) 0 r]
        rw [ez] at r2
        have lz : zs.length = rankOf ms r x := by rw [r2.length, List.length_map]; rfl
        refine ⟨_, _, rfl, .inl (SqL.of hz2), _, rfl, (by show 2 ≤ sizeLine; decide), fun z hz4 => ?_⟩
        refine k1 rfl _ _ (s2.trans (same_upd hz4)) (TupI.rp (ns := [((rankOf ms r x : Nat) : Int), x]) ⟨SqT.of ?_, by show 2 ≤ 1000; decide⟩)
        rw [upd_same, lz]
        rfl
    · rw [filter_true] at r1
      have ez : (List.range (r.map V.int).length).map (fun j => dTup [((rankOf ms r (r.getD j 0) : Nat) : Int), r.getD j 0]) = (r.map fun x => [((rankOf ms r x : Nat) : Int), x]).map dTup := by
        rw [List.length_map, List.map_map]
        exact map_range (fun x : Int => dTup [((rankOf ms r x : Nat) : Int), x]) 0 r
      rw [ez] at r1
      have hk : ∀ p H', Same H H' → TupI K H' p ((srtP (r.map fun x => [((rankOf ms r x : Nat) : Int), x])).map fun t => t.getD 1 0) → Q (.ref p) H' := k
      have hM0 : ∀ t ∈ (r.map fun x => [((rankOf ms r x : Nat) : Int), x]), ∃ a b : Int, t = [a, b] ∧ (0 ≤ a ∧ a < 64) ∧ (0 ≤ b ∧ b < 64) := fun t ht => by
        obtain ⟨x, hx, rfl⟩ := List.mem_map.mp ht
        have h1 := hb x hx
        have h2 : rankOf ms r x ≤ r.length := List.length_filter_le _ _
        exact ⟨_, _, rfl, by omega, by omega⟩
      have lM0 : (r.map fun x => [((rankOf ms r x : Nat) : Int), x]).length = r.length := List.length_map _
      generalize (r.map fun x => [((rankOf ms r x : Nat) : Int), x]) = M at *
      have ly : ys.length = M.length := by rw [r1.length, List.length_map]
      refine ⟨_, rfl, D1, ys, rfl, SqL.of hy, by omega, fun x hx => ?_, fun zs p hp hpw hq => ?_⟩
      · obtain ⟨i, hi⟩ := List.getElem?_of_mem hx
        obtain ⟨t, a2, hn, rfl, tt2⟩ := r1.row hi
        obtain ⟨a, b, rfl, h1, h2⟩ := hM0 t (List.mem_of_getElem? hn)
        refine ⟨[a, b], ⟨a2, rfl, tt2.1⟩, rfl, fun m hm => ?_⟩
        rcases List.mem_cons.mp hm with rfl | hm
        · exact h1
        · rw [List.mem_singleton.mp hm]
          exact h2
      · obtain ⟨es, he1, he2⟩ := r1.perm hp
        obtain ⟨T', hT1, rfl⟩ := perm_rows he1
        have hpw2 := RpAll.pw (S := fun d e => ∀ a b, d = dTup a → e = dTup b → cdT a ≤ cdT b) (fun x y d1 e1 rx ry hxy a b ha hb => by
          subst ha hb
          obtain ⟨a1, rfl, t1⟩ := rx.tupI
          obtain ⟨b1, rfl, t2⟩ := ry.tupI
          exact hxy a b ⟨a1, rfl, t1.1⟩ ⟨b1, rfl, t2.1⟩) he2 hpw
        have hpw3 : T'.Pairwise fun a b => cdT a ≤ cdT b := by
          rw [List.pairwise_map] at hpw2
          exact hpw2.imp fun h => h _ _ rfl rfl
        have eT := srtP_eq hT1 hpw3 (fun a ha b hb hab => by
          obtain ⟨a1, a2, rfl, h1, h2⟩ := hM0 a ha
          obtain ⟨b1, b2, rfl, h3, h4⟩ := hM0 b hb
          rw [code_two, code_two] at hab
          have e1 : a1 = b1 := by omega
          have e2 : a2 = b2 := by omega
          rw [e1, e2])
        have hM1 : ∀ t ∈ T', ∃ a b : Int, t = [a, b] := fun t ht => by
          obtain ⟨a, b, e, _⟩ := hM0 t (hT1.mem_iff.mp ht)
          exact ⟨a, b, e⟩
        rw [← eT] at hk
        have lz : zs.length = T'.length := by rw [he2.length, List.length_map]
        have hq2 : upd H1 p (.lst zs) p = some (.lst zs) := upd_same
        have s2 := same_upd (o := .lst zs) hq
        have he3 := he2.same s2
        generalize upd H1 p (.lst zs) = H2 at *
        refine ⟨p, rfl, ⟨_, SqL.of hq2⟩, fun D3 hD3 => ?_⟩
        refine lcL (K := K) (xs := zs) (fun _ => true) (fun j => .int ((T'.getD j []).getD 1 0)) hD3 (SqL.of hq2) (by rw [hp.length_eq]; omega) (fun _ _ _ => rfl) (fun i v H3 hi s3 Q1 Q2 k1 k2 => ?_) (fun ws H3 s3 hw r3 => ?_)
        · obtain ⟨t, a2, hn, rfl, tt2⟩ := he3.row hi
          have tt2 := tt2.same s3
          have en : T'.getD i [] = t := by rw [List.getD_eq_getElem?_getD, hn]; rfl
          rw [en] at k1
          obtain ⟨a, b, rfl⟩ := hM1 t (List.mem_of_getElem? hn)
          exact ⟨a2, _, rfl, tt2.1, rfl, _, _, rfl, _, _, rfl, rfl, rfl, _, rfl, k1 rfl _ _ (Same.refl _) (.int _)⟩
        · rw [filter_true] at r3
          have ez : (List.range zs.length).map (fun j => PyData.int ((T'.getD j []).getD 1 0)) = (T'.map fun t => t.getD 1 0).map PyData.int := by
            rw [lz, List.map_map]
            exact map_range (fun t : List Int => PyData.int (t.getD 1 0)) [] T'
          rw [ez] at r3
          have := r3.ofInts
          subst this
          dsimp only [tNil]
          refine tupL_use (SqL.of hw) fun p2 H5 s5 hp2 => hk p2 H5 (((s1.trans s2).trans s3).trans s5) ⟨hp2, ?_⟩
          rw [List.length_map, hT1.length_eq]
          omega
end
end LK
namespace LK
open PySem PySem.Spec PyProof.Rows L2
def spOrders (K : PySem.W.Frag) : Sp := fun vs H Q _ => ∃ v u l n rows T S, vs = [v, u, l] ∧ Rp K H v (bookD n rows) ∧ Rp K H u (dRows T) ∧ Rp K H l (dRows S) ∧ In45 n rows ∧ TiesIn n rows T ∧ RowsIn n S ∧ (∀ r ∈ S, r.length ≤ 45) ∧ ∀ u H', Same H H' → Rp K H' u (dRows (S.map (orderT (ledM n rows T)))) → Q u H'
noncomputable def ownOrdersX (n : Int) (rows : List (List Int)) (d : PyData) : Except (Str × Int) PyData := if isSorting n rows d then .ok (dRows (rows.map (orderT (ledM n rows (toT d))))) else .error ("sorting", -1)
section
variable {P : Program} {w : World} {K : PySem.W.Frag} {mg : Str → Option Value} {base : Heap} {ad : Nat → Addr} {fd : Nat → FuncData}
theorem ok_orders_in (T : Txt K mg ad fd) : FnOk P w K mg base CX0 4 (ad 62) (fd 62) ["book", "sorting", "lists"] (spOrders K) := by
  refine T.F_orders_in.ok sc_orders_in (fun vs H Q E h => ?_) (fun cdv A outer s H vs Q E hr h => ?_)
  · obtain ⟨v, u, l, n, rows, TT, S, rfl, _⟩ := h
    rfl
  · obtain ⟨v, u, l, n, rows, TT, S, rfl, h, hu, hl, ⟨hin, hn0, hn1⟩, hT, hS, hSl, k⟩ := h
    refine ⟨_, (pss_cons (ps_set (i := 3) sc_orders_in.nd rfl (Or.inr rfl) (pe_call (ok_leading_masks T) (hr.mono (by decide)) rfl T.m_leading_masks T.F_leading_masks.kp (b_leading_masks T) .nil pass0 (pa_cons (pv 0) (pa_cons (pv 1) pa_nil))))
  (pss_one (ps_ret (pe_callTy (tupOf K) (by rfl) T.g_tuple (by decide +kernel) (pa_cons (pe_lc (own := [("things", 4)]) (g := gName 4) rfl sc_orders_in.nd (piT K (pv 2)) (blkOk_by (N := ["book", "sorting", "lists", "out", "things"]) (sc := defScope s_orders_in) (by decide +kernel)) (fun _ _ _ _ _ => (pg_name (i := 4) (x := "things") sc_orders_in.nd rfl (Or.inl rfl))) (fun _ _ _ _ _ => pts_nil) (fun _ _ _ _ _ => (pe_call (ok_order_in T) (hr.mono (by decide)) rfl T.m_order_in T.F_order_in.kp (b_order_in T) .nil pass0 (pa_cons (pv 3) (pa_cons (pv 4) pa_nil))))) pa_nil))))), ?_⟩
    refine ⟨_, rfl, _, rfl, v, u, n, rows, TT, rfl, h, hu, hin, hn0, hn1, hT, fun p ms H1 s1 hp hm LO => ?_⟩
    have em := led_eq hin LO
    subst em
    have hl1 := hl.same s1
    cases hl1 with
    | @tup tt xs ds st lt rt =>
    have lx : xs.length = S.length := by rw [rt.length, List.length_map]
    refine ⟨_, rfl, tt, rfl, ⟨_, st⟩, fun D2 hD2 => ?_⟩
    refine lcT (K := K) (xs := xs) (fun _ => true) (fun j => dTup (orderT (ledM n rows TT) (S.getD j []))) hD2 st lt (fun _ _ _ => noL_dTup _) (fun i x H3 hi s3 Q1 Q2 k1 k2 => ?_) (fun ys H3 s3 hy r3 => ?_)
    · obtain ⟨r, a2, hn, rfl, ta⟩ := rt.row hi
      have ta := ta.same s3
      have en : S.getD i [] = r := by rw [List.getD_eq_getElem?_getD, hn]; rfl
      rw [en] at k1
      have hr2 := List.mem_of_getElem? hn
      refine ⟨rfl, _, rfl, _, rfl, p, a2, _, r, rfl, SqL.of (s3 _ _ hm), ta, fun x hx => ?_, by rw [ledM_length]; omega, hSl r hr2, fun q H4 s4 tq => k1 rfl _ _ s4 tq.rp⟩
      have := hS r hr2 x hx
      rw [ledM_length]
      omega
    · rw [filter_true] at r3
      have ez : (List.range xs.length).map (fun j => dTup (orderT (ledM n rows TT) (S.getD j []))) = (S.map (orderT (ledM n rows TT))).map dTup := by
        rw [lx, List.map_map]
        exact map_range (fun r : List Int => dTup (orderT (ledM n rows TT) r)) [] S
      rw [ez] at r3
      have ly : ys.length ≤ 1000 := by
        rw [r3.length, List.length_map, List.length_map]
        omega
      dsimp only [tNil]
      refine tupL_use (SqL.of hy) fun p H4 s4 hp => ?_
      exact k _ _ ((s1.trans s3).trans s4) (.tup hp ly (r3.same s4))
theorem ok_own_orders (T : Txt K mg ad fd) : FnOk P w K mg base (L2.CX P w) 9 (ad 63) (fd 63) ["book", "sorting"] (spX K (ad 18) (fun n rows _ => In45 n rows ∧ ∀ r ∈ rows, r.length ≤ 45) ownOrdersX) := by
  refine T.F_own_orders.okX sc_own_orders (fun vs H Q E h => ?_) (fun cdv A outer s H vs Q E hr h => ?_)
  · obtain ⟨v, u, d, n, rows, rfl, _⟩ := h
    rfl
  · obtain ⟨v, u, d, n, rows, rfl, h, hu, ⟨⟨hin, hn0, hn1⟩, hrl⟩, k⟩ := h
    refine ⟨_, (pss_cons (ps_expr (pe_call (ok_need T) (hr.mono (by decide)) rfl T.m_need T.F_need.kp (b_need T) .nil (passes_call (takes_of rfl rfl rfl rfl) fun _ _ _ _ h => h) (pa_cons (pe_call (ok_is_sorting T) (hr.mono (by decide)) rfl T.m_is_sorting T.F_is_sorting.kp (b_is_sorting T) .nil pass0 (pa_cons (pv 0) (pa_cons (pv 1) pa_nil))) (pa_cons pe_str pa_nil))))
  (pss_one (ps_ret (pe_call (ok_orders_in T) (hr.mono (by decide)) rfl T.m_orders_in T.F_orders_in.kp (b_orders_in T) .nil pass0 (pa_cons (pv 0) (pa_cons (pv 1) (pa_cons (pe_ix (ixT K) (pv 0) pe_int (fun _ _ => rfl)) pa_nil))))))), ?_⟩
    refine ⟨_, rfl, _, rfl, v, u, d, n, rows, rfl, h, hu, hin, hn0, hn1, fun H1 s1 => ?_⟩
    cases e : isSorting n rows d with
    | false =>
      have ek : ownOrdersX n rows d = .error ("sorting", -1) := by simp [ownOrdersX, e]
      rw [ek] at k
      exact ⟨false, _, rfl, (fun z => by cases z), fun _ => k.same s1⟩
    | true =>
      have ek : ownOrdersX n rows d = .ok (dRows (rows.map (orderT (ledM n rows (toT d))))) := by simp [ownOrdersX, e]
      rw [ek] at k
      obtain ⟨ed, hT, hac⟩ := isSorting_in e
      have hu1 := hu.same s1
      rw [ed] at hu1
      refine ⟨true, _, rfl, (fun _ => ?_), fun z => by cases z⟩
      have hb0 := h.same s1
      have hbk := hb0
      obtain ⟨b, L, xs, rfl, hb, hL, hz, hr2⟩ := rp_book hb0
      exact ⟨_, rfl, _, rfl, _, rfl, _, _, _, _, rfl, rfl, hb, rfl, _, u, .ref L, n, rows, toT d, rows, rfl, hbk, hu1, .tup hL hz hr2, ⟨hin, hn0, hn1⟩, hT, hin, hrl, fun u H' s' r => k u H' (s1.trans s') r⟩
end
end LK
namespace LK
open PySem PySem.Spec PyProof.Rows L2
inductive Reach (ms : List Nat) (a : Nat) : Nat → Prop
  | here : Reach ms a a
  | step {x y : Nat} : Reach ms a x → Edge ms x y → Reach ms a y
/-- what was come to, and whence -/
structure Came (ms : List Nat) (a : Nat) (S : List Nat) (pr : Nat → Nat) (kvs : List (Key × V)) : Prop where
  val : ∀ x : Nat, valV kvs (Sum.inl (x : Int)) = if x ∈ S then some (.int (pr x : Nat)) else none
  len : kvs.length = S.length
  nd : S.Nodup
  lt : ∀ x ∈ S, x < ms.length
  here : a ∈ S
  pre : ∀ x ∈ S, x ≠ a → pr x ∈ S ∧ Edge ms (pr x) x ∧ S.idxOf (pr x) < S.idxOf x
theorem came_start {ms : List Nat} {a : Nat} (h : a < ms.length) : Came ms a [a] (fun _ => a) [(Sum.inl (a : Int), .int (a : Nat))] where
  val := fun x => by
    by_cases e : x = a
    · subst e
      rw [if_pos (by simp), valV_pos rfl]
    · rw [if_neg (by simpa using e), valV_neg (fun z => e (by injection z with z; omega))]
      rfl
  len := rfl
  nd := by simp
  lt := fun x hx => by rw [List.mem_singleton.mp hx]; exact h
  here := by simp
  pre := fun x hx hne => absurd (List.mem_singleton.mp hx) hne
theorem came_new {ms : List Nat} {a t y : Nat} {S : List Nat} {pr : Nat → Nat} {kvs : List (Key × V)} (c : Came ms a S pr kvs) (ht : t ∈ S) (he : Edge ms t y) (hy : y < ms.length) (hn : y ∉ S) :
    Came ms a (S ++ [y]) (fun x => if x = y then t else pr x) (putK kvs (Sum.inl (y : Int)) (.int (t : Nat))) where
  val := fun x => by
    rw [valV_put, c.val x]
    by_cases e : x = y
    · subst e
      rw [if_pos rfl, if_pos (by simp), if_pos rfl]
    · rw [if_neg (fun z => e (by injection z with z; omega)), if_neg e]
      by_cases hx : x ∈ S
      · rw [if_pos hx, if_pos (by simp [hx])]
      · rw [if_neg hx, if_neg (by simp [hx, e])]
  len := by
    have hnone : valV kvs (Sum.inl (y : Int)) = none := by rw [c.val y, if_neg hn]
    have hk := valV_not hnone
    have hp : putK kvs (Sum.inl (y : Int)) (.int (t : Nat)) = kvs ++ [(Sum.inl (y : Int), .int (t : Nat))] := by
      unfold putK
      rw [if_neg]
      intro ha
      obtain ⟨kv, hm, he⟩ := List.any_eq_true.mp ha
      exact hk (List.mem_map.mpr ⟨kv, hm, by simpa using he⟩)
    rw [hp, List.length_append, List.length_append, c.len]
    rfl
  nd := List.nodup_append.mpr ⟨c.nd, by simp, fun x hx z hz => by rw [List.mem_singleton.mp hz]; rintro rfl; exact hn hx⟩
  lt := fun x hx => by
    rcases List.mem_append.mp hx with z | z
    · exact c.lt x z
    · rw [List.mem_singleton.mp z]
      exact hy
  here := by simp [c.here]
  pre := fun x hx hne => by
    by_cases e : x = y
    · subst e
      rw [if_pos rfl]
      refine ⟨by simp [ht], he, ?_⟩
      rw [List.idxOf_append, if_pos ht, List.idxOf_append, if_neg hn]
      have := List.idxOf_lt_length_iff.mpr ht
      omega
    · have hx2 : x ∈ S := by
        rcases List.mem_append.mp hx with z | z
        · exact z
        · exact absurd (List.mem_singleton.mp z) e
      rw [if_neg e]
      obtain ⟨h1, h2, h3⟩ := c.pre x hx2 hne
      refine ⟨by simp [h1], h2, ?_⟩
      rw [List.idxOf_append, if_pos h1, List.idxOf_append, if_pos hx2]
      exact h3
theorem came_len {ms : List Nat} {a : Nat} {S : List Nat} {pr : Nat → Nat} {kvs : List (Key × V)} (c : Came ms a S pr kvs) : S.length ≤ ms.length := by
  have h5 : (natI S).Nodup := List.Pairwise.map _ (fun a b (h : a ≠ b) => by omega) c.nd
  have h6 : natI S ⊆ natI (List.range ms.length) := fun z hz => by
    unfold natI at hz
    obtain ⟨y, hy, rfl⟩ := List.mem_map.mp hz
    exact natI_mem.mpr (List.mem_range.mpr (c.lt y hy))
  have := nodup_le h5 h6
  rw [natI_length, natI_length, List.length_range] at this
  exact this
theorem came_reach {ms : List Nat} {a : Nat} {S : List Nat} {pr : Nat → Nat} {kvs : List (Key × V)} (c : Came ms a S pr kvs) : ∀ (k : Nat) {x : Nat}, x ∈ S → S.idxOf x < k → Reach ms a x
  | 0, _, _, h => absurd h (by omega)
  | k + 1, x, hx, h => by
    by_cases e : x = a
    · subst e
      exact .here
    · obtain ⟨h1, h2, h3⟩ := c.pre x hx e
      exact .step (came_reach c k h1 (by omega)) h2
theorem came_closed {ms : List Nat} {a : Nat} {S : List Nat} {pr : Nat → Nat} {kvs : List (Key × V)} (c : Came ms a S pr kvs) (hc : ∀ x ∈ S, ∀ y, Edge ms x y → y ∈ S) {x : Nat} (h : Reach ms a x) : x ∈ S := by
  induction h with
  | here => exact c.here
  | step _ he ih => exact hc _ ih _ he
end LK
namespace LK
open PySem PySem.Spec PyProof.Rows L2
def spWay (K : PySem.W.Frag) : Sp := fun vs H Q _ => ∃ (D : Addr) (ms : List Nat) (a b : Nat), vs = [.ref D, .int a, .int b] ∧ SqL K H D ((natI ms).map V.int) ∧ ms.length ≤ 45 ∧ (∀ m ∈ ms, m < 2 ^ ms.length) ∧ a < ms.length ∧ b < ms.length ∧ a ≠ b ∧
  (¬ Reach ms a b → ∀ H', Same H H' → Q .non H') ∧ (∀ p ws H', Same H H' → TupI K H' p (natI ws) → Reach ms a b → Q (.ref p) H')
theorem way_test {K : PySem.W.Frag} {σ : L2.St} {H : Hp} {Q : Bool → Hp → Prop} {C N : Addr} {kvs : List (Key × V)} {nw : List Nat} {b : Nat} (h2 : σ[2]? = some (some (.int (b : Nat)))) (h3 : σ[3]? = some (some (.ref C))) (h4 : σ[4]? = some (some (.ref N)))
    (hC : H C = some (.dK kvs)) (hN : H N = some (.lst ((natI nw).map V.int))) (q : Q (!nw.isEmpty && !(valV kvs (Sum.inl (b : Int))).isSome) H) :
    tAnd (fun σ H1 Q => tVar 4 σ H1 fun x H' => ∃ k, TruV K x H' k ∧ Q k H') (tB (tDNotIn (tVar 2) (tVar 3))) σ H Q := by
  refine ⟨_, h4, !((natI nw).map V.int).isEmpty, .inl ⟨_, SqL.of hN, rfl⟩, ?_⟩
  cases nw with
  | nil => exact q
  | cons x nw => exact ⟨_, h2, _, h3, C, _, rfl, DGet.k (k := Sum.inl (b : Int)) hC, _, rfl, q⟩
theorem way_mono {K : PySem.W.Frag} (σ : L2.St) (H : Hp) (Q1 Q2 : Bool → Hp → Prop) (hq : ∀ b H1, Q1 b H1 → Q2 b H1)
    (h : tAnd (fun σ H1 Q => tVar 4 σ H1 fun x H' => ∃ k, TruV K x H' k ∧ Q k H') (tB (tDNotIn (tVar 2) (tVar 3))) σ H Q1) : tAnd (fun σ H1 Q => tVar 4 σ H1 fun x H' => ∃ k, TruV K x H' k ∧ Q k H') (tB (tDNotIn (tVar 2) (tVar 3))) σ H Q2 := by
  obtain ⟨v, e, kk, t, q⟩ := h
  refine ⟨v, e, kk, t, ?_⟩
  cases kk with
  | false => exact hq _ _ q
  | true =>
    obtain ⟨v2, e2, v3, e3, C, o, e4, g, c, ec, q⟩ := q
    exact ⟨v2, e2, v3, e3, C, o, e4, g, c, ec, hq _ _ q⟩
theorem seqT_updK {K : PySem.W.Frag} {H : Hp} {D a : Addr} {kvs : List (Key × V)} {xs : List V} {o : HO} (hD : H D = some (.dK kvs)) (s : SqT K H a xs) : SqT K (upd H D o) a xs := by
  rcases s with (s | ⟨u, s⟩) | s
  · exact .inl (.inl (by rw [upd_ne (ne_of s hD (by intro z; cases z))]; exact s))
  · exact .inl (.inr ⟨u, by rw [upd_ne (ne_of s hD (by intro z; cases z))]; exact s⟩)
  · exact .inr s
theorem natI_snoc {l : List Nat} {x : Nat} : (natI l).map V.int ++ [.int (x : Nat)] = (natI (l ++ [x])).map V.int := by
  unfold natI
  rw [List.map_append, List.map_append]
  rfl
theorem drop_cons {nw : List Nat} {i t : Nat} (h : nw[i]? = some t) : nw.drop i = t :: nw.drop (i + 1) := by
  have hl := (List.getElem?_eq_some_iff.mp h).1
  rw [List.drop_eq_getElem_cons hl, (List.getElem?_eq_some_iff.mp h).2]
section
variable {P : Program} {w : World} {K : PySem.W.Frag} {mg : Str → Option Value} {base : Heap} {ad : Nat → Addr} {fd : Nat → FuncData}
theorem ok_way_in (T : Txt K mg ad fd) : FnOk P w K mg base CX0 2 (ad 32) (fd 32) ["out", "here", "there"] (spWay K) := by
  refine T.F_way_in.ok sc_way_in (fun vs H Q E h => ?_) (fun cdv A outer s H vs Q E hr h => ?_)
  · obtain ⟨D, ms, a, b, rfl, _⟩ := h
    rfl
  · obtain ⟨D, ms, a, b, rfl, hD, hz, hms, ha, hb, hab, k1, k2⟩ := h
    refine ⟨_, (pss_cons (ps_set (i := 3) sc_way_in.nd rfl (Or.inl rfl) (pe_disp (pps_cons (pv 1) (pv 1) pps_nil) (by decide) rfl (by intro z; cases z) (by decide)))
  (pss_cons (ps_set (i := 4) sc_way_in.nd rfl (Or.inl rfl) (pe_lst (pa_cons (pv 1) pa_nil)))
  (pss_cons (ps_while PassesOwn.never (PW.pt (pw_and (pt_truth (pv 4) (by intro _; rfl)) (pw_and1 (pt_cmp (pc_dnotin (hu_of hr) (pv 2) (pv 3))))))
  (pss_cons (ps_set (i := 6) sc_way_in.nd rfl (Or.inl rfl) (pe_lst pa_nil))
  (pss_cons (ps_for PassesOwn.never rfl (piL K (pv 4)) (pg_name (i := 7) (x := "thing") sc_way_in.nd rfl (Or.inl rfl))
  (pss_one (ps_for PassesOwn.never rfl (piT K (pe_call (ok_things_of T) (hr.mono (by decide)) rfl T.m_things_of T.F_things_of.kp (b_things_of T) .nil pass0 (pa_cons (pe_ix (ixL K) (pv 0) (pv 7) (fun _ _ => rfl)) pa_nil))) (pg_name (i := 8) (x := "other") sc_way_in.nd rfl (Or.inl rfl))
  (pss_one (ps_if (pt_cmp (pc_dnotin (hu_of hr) (pv 8) (pv 3))) (pss_cons (ps_dput (hu_of hr) (pv 3) (pv 8) (pv 7) rfl)
  (pss_one (ps_expr (pe_bmK K PySem.F.plainAttrs_list PySem.F.slot_list_append PySem.F.type_list_append mt_append (pv 6) (pa_cons (pv 8) pa_nil)))))
  pss_nil)))))
  (pss_one (ps_set (i := 4) sc_way_in.nd rfl (Or.inl rfl) (pv 6))))))
  (pss_cons (ps_if (pt_cmp (pc_dnotin (hu_of hr) (pv 2) (pv 3))) (pss_one (ps_ret pe_non))
  pss_nil)
  (pss_cons (ps_set (i := 5) sc_way_in.nd rfl (Or.inl rfl) (pe_lst (pa_cons (pv 2) pa_nil)))
  (pss_cons (ps_while PassesOwn.never (pt_cmpR op_ne (pe_ix (ixL K) (pv 5) (pe_un un_neg pe_int) (fun _ _ => rfl)) (pv 1) (nomark _))
  (pss_one (ps_expr (pe_bmK K PySem.F.plainAttrs_list PySem.F.slot_list_append PySem.F.type_list_append mt_append (pv 5) (pa_cons (pe_dget (hu_of hr) (pv 3) (pe_ix (ixL K) (pv 5) (pe_un un_neg pe_int) (fun _ _ => rfl)) (fun _ _ => rfl)) pa_nil)))))
  (pss_one (ps_ret (pe_callTy (tupOf K) (by rfl) T.g_tuple (by decide +kernel) (pa_cons (pe_revL (pv 5)) pa_nil)))))))))), ?_⟩
    refine fun C hC => ?_
    refine ⟨_, rfl, _, rfl, upd_same, [(Sum.inl (a : Int), .int (a : Nat))], rfl, (by show 1 ≤ 15; decide), ?_⟩
    refine ⟨_, rfl, (by show 1 ≤ sizeLine; decide), fun N hN => ?_⟩
    have em0 : (HO.dK (mergeK [] [(Sum.inl (a : Int), V.int (a : Nat))])) = HO.dK [(Sum.inl (a : Int), V.int (a : Nat))] := rfl
    rw [em0] at hN ⊢
    have hC1 : upd (upd H C (.dK [])) C (.dK [(Sum.inl (a : Int), V.int (a : Nat))]) C = some (.dK [(Sum.inl (a : Int), V.int (a : Nat))]) := upd_same
    have sC : Same H (upd (upd H C (.dK [])) C (.dK [(Sum.inl (a : Int), V.int (a : Nat))])) := same_upd2 hC (same_upd hC)
    generalize upd (upd H C (.dK [])) C (.dK [(Sum.inl (a : Int), V.int (a : Nat))]) = H1 at *
    have sN := same_upd (o := .lst [V.int (a : Nat)]) hN
    show tWhile (tAnd (fun σ H1 Q => tVar 4 σ H1 fun x H' => ∃ k, TruV K x H' k ∧ Q k H') (tB (tDNotIn (tVar 2) (tVar 3)))) _ _ [some (V.ref D), some (V.int (a : Nat)), some (V.int (b : Nat)), some (V.ref C), some (V.ref N), none, none, none, none] _
    refine while_by (fun σ H2 => ∃ (N : Addr) (nw S : List Nat) (pr : Nat → Nat) (kvs : List (Key × V)) (v6 v7 v8 : Option V), σ = [some (V.ref D), some (V.int (a : Nat)), some (V.int (b : Nat)), some (V.ref C), some (V.ref N), none, v6, v7, v8] ∧ Same H H2 ∧ H2 C = some (.dK kvs) ∧ H2 N = some (.lst ((natI nw).map V.int)) ∧ Came ms a S pr kvs ∧ (∀ x ∈ nw, x ∈ S) ∧ (∀ x ∈ S, x ∉ nw → ∀ y, Edge ms x y → y ∈ S))
      (fun (σ : L2.St) (H2 : Hp) => (match H2 C with | some (.dK kvs) => 2 * (ms.length + 1 - kvs.length) | _ => 0) + (match σ[4]? with | some (some (V.ref N)) => (match H2 N with | some (.lst l) => (if l.isEmpty then 0 else 1) | _ => 0) | _ => 0))
      ⟨N, [a], [a], fun _ => a, _, none, none, none, rfl, sC.trans sN, sN _ _ hC1, upd_same, came_start ha, fun x hx => hx, fun x hx hn => absurd hx hn⟩ (fun σ H2 hp => ?_) way_mono
    obtain ⟨N, nw, S, pr, kvs, v6, v7, v8, rfl, s2, hC2, hN2, cm, hnw, hcl⟩ := hp
    refine way_test rfl rfl rfl hC2 hN2 ?_
    have hvb := cm.val b
    have hSn := came_len cm
    by_cases hgo : nw ≠ [] ∧ b ∉ S
    rotate_left
    · have et : (!nw.isEmpty && !(valV kvs (Sum.inl (b : Int))).isSome) = false := by
        rw [hvb]
        by_cases h1 : nw = []
        · rw [h1]; rfl
        · have h2 : b ∈ S := Classical.byContradiction fun z => hgo ⟨h1, z⟩
          rw [if_pos h2]
          simp
      rw [et]
      refine iteF ?_
      refine ⟨_, rfl, _, rfl, C, _, rfl, DGet.k (k := Sum.inl (b : Int)) hC2, _, rfl, ?_⟩
      rw [hvb]
      by_cases hbS : b ∈ S
      · rw [if_pos hbS]
        refine iteF ?_
        have hrb : Reach ms a b := came_reach cm (S.idxOf b + 1) hbS (by omega)
        refine ⟨_, rfl, (by show 1 ≤ sizeLine; decide), fun W hW => ?_⟩
        have hWn : H W = none := s2.free hW
        have hCW : C ≠ W := fun z => by rw [← z, hC2] at hW; cases hW
        show tWhile _ _ _ [some (V.ref D), some (V.int (a : Nat)), some (V.int (b : Nat)), some (V.ref C), some (V.ref N), some (V.ref W), v6, v7, v8] _
        refine while_by (fun σ H3 => ∃ (ini : List Nat) (x : Nat), σ = [some (V.ref D), some (V.int (a : Nat)), some (V.int (b : Nat)), some (V.ref C), some (V.ref N), some (V.ref W), v6, v7, v8] ∧ Same H H3 ∧ H3 C = some (.dK kvs) ∧ H3 W = some (.lst ((natI (ini ++ [x])).map V.int)) ∧ x ∈ S ∧ ini.length + S.idxOf x ≤ 45)
          (fun (_ : L2.St) (H3 : Hp) => match H3 W with | some (HO.lst l) => 100 - l.length | _ => 0)
          ⟨[], b, rfl, same_upd2 hWn s2, by rw [upd_ne hCW]; exact hC2, upd_same, hbS, by have := List.idxOf_lt_length_iff.mpr hbS; rw [List.length_nil]; omega⟩ (fun σ H3 hp => ?_) (fun σ H1 Q1 Q2 hq h => ?_)
        · obtain ⟨ini, x, rfl, s3, hC3, hW3, hxS, hle⟩ := hp
          have elast : (natI (ini ++ [x])).map V.int = (natI ini).map V.int ++ [.int (x : Nat)] := natI_snoc.symm
          refine ⟨_, rfl, _, rfl, W, _, _, _, rfl, rfl, SqL.of hW3, atI_end elast, _, rfl, rfl, _, rfl, ?_⟩
          show if (!decide (V.int (x : Int) = V.int (a : Int))) = true then _ else _
          by_cases e : x = a
          · rw [decide_eq_true (by rw [e])]
            refine iteF ?_
            refine ⟨_, rfl, W, _, rfl, SqL.of hW3, fun p hp => ?_⟩
            dsimp only [tNil]
            refine tupL_use (SqL.of upd_same) fun q H5 s5 hq => ?_
            have er : ((natI (ini ++ [x])).map V.int).reverse = (natI (ini ++ [x]).reverse).map V.int := by
              unfold natI
              rw [List.map_reverse, List.map_reverse]
            rw [er] at hq
            exact k2 q _ H5 ((s3.trans (same_upd hp)).trans s5) ⟨hq, by rw [natI_length, List.length_reverse, List.length_append, List.length_singleton]; omega⟩ hrb
          · rw [decide_eq_false (fun z => e (by injection z with z; omega))]
            refine iteT ?_
            obtain ⟨h1, h2, h3⟩ := cm.pre x hxS e
            have hv : valV kvs (Sum.inl (x : Int)) = some (.int (pr x : Nat)) := by rw [cm.val x, if_pos hxS]
            refine ⟨_, rfl, .inl ⟨rfl, _, SqL.of hW3⟩, _, rfl, _, rfl, _, rfl, W, _, _, _, rfl, rfl, SqL.of hW3, atI_end elast, C, _, rfl, .inl ⟨kvs, Sum.inl (x : Int), .inl hC3, rfl, hv.symm⟩, W, _, _, rfl, rfl, hW3, small1000 (by rw [List.length_map, natI_length, List.length_append, List.length_singleton]; omega), ?_⟩
            refine ⟨⟨ini ++ [x], pr x, rfl, same_upd2 hWn s3, by rw [upd_ne hCW]; exact hC3, by rw [upd_same, natI_snoc], h1, by rw [List.length_append, List.length_singleton]; omega⟩, ?_⟩
            rw [upd_same, hW3]
            simp only [List.length_append, List.length_map, natI_length, List.length_singleton]
            omega
        · obtain ⟨v, e, u, e2, a1, b1, c1, d1, f1, f2, f3, f4, w1, g1, g2, k, ek, q⟩ := h
          exact ⟨v, e, u, e2, a1, b1, c1, d1, f1, f2, f3, f4, w1, g1, g2, k, ek, hq _ _ q⟩
      · rw [if_neg hbS]
        have h1 : nw = [] := Classical.byContradiction fun z => hgo ⟨z, hbS⟩
        subst h1
        refine iteT (k1 (fun hr => hbS (came_closed cm (fun x hx y he => hcl x hx (by simp) y he) hr)) _ s2)
    · have et : (!nw.isEmpty && !(valV kvs (Sum.inl (b : Int))).isSome) = true := by
        rw [hvb, if_neg hgo.2]
        cases nw with
        | nil => exact absurd rfl hgo.1
        | cons x l => rfl
      rw [et]
      refine iteT ?_
      refine ⟨(by show 0 ≤ sizeLine; decide), fun R hR => ?_⟩
      have hRn : H R = none := s2.free hR
      have hCR : C ≠ R := fun z => by rw [← z, hC2] at hR; cases hR
      have hNR : N ≠ R := fun z => by rw [← z, hN2] at hR; cases hR
      have hCN : C ≠ N := fun z => by rw [← z, hC2] at hN2; cases hN2
      refine ⟨_, rfl, N, rfl, ⟨_, SqL.of (by rw [upd_ne hNR]; exact hN2)⟩, for_list (K := K) (a := N) (xs := (natI nw).map V.int)
        (fun i σ H3 => ∃ (rs : List Nat) (pr : Nat → Nat) (kvs : List (Key × V)) (v7 v8 : Option V), σ = [some (V.ref D), some (V.int (a : Nat)), some (V.int (b : Nat)), some (V.ref C), some (V.ref N), none, some (V.ref R), v7, v8] ∧ Same H H3 ∧ H3 C = some (.dK kvs) ∧ H3 N = some (.lst ((natI nw).map V.int)) ∧ H3 R = some (.lst ((natI rs).map V.int)) ∧ Came ms a (S ++ rs) pr kvs ∧ (∀ x ∈ S ++ rs, x ∉ nw.drop i → x ∉ rs → ∀ y, Edge ms x y → y ∈ S ++ rs))
        ⟨[], pr, kvs, _, _, rfl, s2.trans (same_upd hR), by rw [upd_ne hCR]; exact hC2, by rw [upd_ne hNR]; exact hN2, upd_same, by rw [List.append_nil]; exact cm, fun x hx hn _ y he => by rw [List.append_nil] at hx ⊢; exact hcl x hx hn y he⟩
        (fun i σ H3 _ ⟨_, _, _, _, _, _, _, _, h, _⟩ => SqL.of h) (fun i v σ H3 hi ⟨rs, pr, kvs, v7, v8, e3, s3, hC3, hN3, hR3, cm3, hcl3⟩ => ?_) (fun σ H3 ⟨rs, pr, kvs, v7, v8, e3, s3, hC3, hN3, hR3, cm3, hcl3⟩ => ?_)⟩
      · subst e3
        obtain ⟨t, ht, rfl⟩ := natAt hi
        have htS : t ∈ S := hnw t (List.mem_of_getElem? ht)
        have htl : t < ms.length := cm.lt t htS
        have hm : ms.getD t 0 < 2 ^ ms.length := hms _ (List.mem_of_getElem? (getD_some htl))
        refine ⟨_, rfl, _, rfl, D, _, _, _, rfl, rfl, s3.seq hD, atI_nat (natI_get (getD_some htl)), ms.getD t 0, ms.length, rfl, hm, by omega, fun p H4 s4 tp => ⟨p, rfl, ⟨_, tp.1⟩, for_tup (K := K) (a := p) (xs := (natI (bitL ms.length (ms.getD t 0))).map V.int)
          (fun j σ H5 => ∃ (rs : List Nat) (pr : Nat → Nat) (kvs : List (Key × V)) (v8 : Option V), σ = [some (V.ref D), some (V.int (a : Nat)), some (V.int (b : Nat)), some (V.ref C), some (V.ref N), none, some (V.ref R), some (V.int (t : Nat)), v8] ∧ Same H H5 ∧ H5 C = some (.dK kvs) ∧ H5 N = some (.lst ((natI nw).map V.int)) ∧ H5 R = some (.lst ((natI rs).map V.int)) ∧ SqT K H5 p ((natI (bitL ms.length (ms.getD t 0))).map V.int) ∧ Came ms a (S ++ rs) pr kvs ∧ (∀ x ∈ S ++ rs, x ∉ nw.drop i → x ∉ rs → ∀ y, Edge ms x y → y ∈ S ++ rs) ∧ (∀ y ∈ (bitL ms.length (ms.getD t 0)).take j, y ∈ S ++ rs))
          ⟨rs, pr, kvs, _, rfl, s3.trans s4, s4 _ _ hC3, s4 _ _ hN3, s4 _ _ hR3, tp.1, cm3, hcl3, fun y hy => by cases hy⟩
          (fun j σ H5 _ ⟨_, _, _, _, _, _, _, _, _, h, _⟩ => h) (fun j v σ H5 hj ⟨rs, pr, kvs, v8, e5, s5, hC5, hN5, hR5, tp5, cm5, hcl5, hb5⟩ => ?_) (fun σ H5 ⟨rs, pr, kvs, v8, e5, s5, hC5, hN5, hR5, tp5, cm5, hcl5, hb5⟩ => ?_)⟩⟩
        · subst e5
          obtain ⟨y, hy, rfl⟩ := natAt hj
          obtain ⟨hyn, hye⟩ := mem_bitL.mp (List.mem_of_getElem? hy)
          have hvy := cm5.val y
          have etake : (bitL ms.length (ms.getD t 0)).take (j + 1) = (bitL ms.length (ms.getD t 0)).take j ++ [y] := by rw [List.take_succ, hy]; rfl
          refine ⟨_, rfl, _, rfl, C, _, rfl, DGet.k (k := Sum.inl (y : Int)) hC5, _, rfl, ?_⟩
          rw [hvy]
          by_cases hyS : y ∈ S ++ rs
          · rw [if_pos hyS]
            refine iteF ⟨rs, pr, kvs, _, rfl, s5, hC5, hN5, hR5, tp5, cm5, hcl5, fun z hz => ?_⟩
            rw [etake] at hz
            rcases List.mem_append.mp hz with z1 | z1
            · exact hb5 z z1
            · rw [List.mem_singleton.mp z1]
              exact hyS
          · rw [if_neg hyS]
            refine iteT ?_
            have hl5 := came_len cm5
            have hkl : kvs.length < sizeLine := small1000 (by rw [cm5.len]; omega)
            have hrl : rs.length ≤ 45 := by
              rw [List.length_append] at hl5
              omega
            refine ⟨_, rfl, _, rfl, _, rfl, C, _, rfl, DPut.k (k := Sum.inl (y : Int)) hC5 hkl, ?_⟩
            have hR6 : upd H5 C (.dK (putK kvs (Sum.inl (y : Int)) (V.int (t : Nat)))) R = some (.lst ((natI rs).map V.int)) := by rw [upd_ne (fun z => hCR z.symm)]; exact hR5
            refine ⟨_, rfl, .inl ⟨rfl, _, SqL.of hR6⟩, _, rfl, R, _, _, rfl, rfl, hR6, small1000 (by rw [List.length_map, natI_length]; omega), ?_⟩
            refine ⟨rs ++ [y], fun x => if x = y then t else pr x, putK kvs (Sum.inl (y : Int)) (V.int (t : Nat)), _, rfl, same_upd2 hRn (same_upd2 hC s5), ?_, ?_, ?_, seqT_upd hR6 (seqT_updK hC5 tp5), ?_, fun x hx hn hnr z he => ?_, fun z hz => ?_⟩
            · rw [upd_ne hCR, upd_same]
            · rw [upd_ne hNR, upd_ne (fun z => hCN z.symm)]
              exact hN5
            · rw [upd_same, natI_snoc]
            · rw [← List.append_assoc]
              exact came_new cm5 (by simp [htS]) hye hyn hyS
            · rw [← List.append_assoc] at hx ⊢
              rcases List.mem_append.mp hx with z1 | z1
              · exact List.mem_append.mpr (.inl (hcl5 x z1 hn (fun q => hnr (by simp [q])) z he))
              · exact absurd (by simp [List.mem_singleton.mp z1]) hnr
            · rw [← List.append_assoc]
              rw [etake] at hz
              rcases List.mem_append.mp hz with z1 | z1
              · exact List.mem_append.mpr (.inl (hb5 z z1))
              · rw [List.mem_singleton.mp z1]
                simp
        · subst e5
          refine ⟨rs, pr, kvs, _, _, rfl, s5, hC5, hN5, hR5, cm5, fun x hx hn hnr y he => ?_⟩
          by_cases ex : x = t
          · subst ex
            rw [List.length_map, natI_length, List.take_length] at hb5
            exact hb5 y (mem_bitL.mpr ⟨testBit_lt hm he, he⟩)
          · refine hcl5 x hx (fun q => ?_) hnr y he
            rw [drop_cons ht] at q
            rcases List.mem_cons.mp q with z | z
            · exact ex z
            · exact hn z
      · subst e3
        have hl3 := came_len cm3
        rw [List.length_append] at hl3
        refine ⟨_, rfl, ⟨R, rs, S ++ rs, pr, kvs, _, _, _, rfl, s3, hC3, hR3, cm3, fun x hx => by simp [hx], fun x hx hn y he => hcl3 x hx (by rw [List.length_map, natI_length, List.drop_length]; simp) hn y he⟩, ?_⟩
        have e1 := cm3.len
        have e2 := cm.len
        rw [List.length_append] at e1
        show (match H3 C with | some (.dK kvs) => 2 * (ms.length + 1 - kvs.length) | _ => 0) + (match H3 R with | some (.lst l) => (if l.isEmpty then 0 else 1) | _ => 0) < (match H2 C with | some (.dK kvs) => 2 * (ms.length + 1 - kvs.length) | _ => 0) + (match H2 N with | some (.lst l) => (if l.isEmpty then 0 else 1) | _ => 0)
        rw [hC3, hC2, hR3, hN2]
        dsimp only
        have e3 : ((natI nw).map V.int).isEmpty = false := by
          cases nw with
          | nil => exact absurd rfl hgo.1
          | cons x l => rfl
        have e4 : ((natI rs).map V.int).isEmpty = rs.isEmpty := by cases rs <;> rfl
        rw [e3, e4, if_neg Bool.false_ne_true]
        cases rs with
        | nil =>
          rw [List.length_nil] at e1
          rw [e1, e2]
          show 2 * (ms.length + 1 - (S.length + 0)) + 0 < 2 * (ms.length + 1 - S.length) + 1
          omega
        | cons r rs =>
          rw [List.length_cons] at e1 hl3
          rw [e1, e2]
          show 2 * (ms.length + 1 - (S.length + (rs.length + 1))) + 1 < 2 * (ms.length + 1 - S.length) + 1
          omega
end
end LK
namespace LK
open PySem PySem.Spec PyProof.Rows L2
def cutM (ms : List Nat) (x y : Nat) : List Nat := ms.set x (ms.getD x 0 ^^^ 2 ^ y)
/-- whether a tie is open: no way but the tie itself -/
def Opn (ms : List Nat) (lo hi : Nat) : Prop := if (ms.getD lo 0).testBit hi then ¬ Reach (cutM ms lo hi) lo hi else ¬ Reach (cutM ms hi lo) hi lo
open Classical in
noncomputable def opnB (ms : List Nat) (lo hi : Nat) : Bool := decide (Opn ms lo hi)
open Classical in
theorem opnB_iff {ms : List Nat} {lo hi : Nat} : opnB ms lo hi = true ↔ Opn ms lo hi := by
  unfold opnB
  exact ⟨fun h => of_decide_eq_true h, fun h => decide_eq_true h⟩
theorem opnB_not {ms : List Nat} {lo hi : Nat} (h : ¬ Opn ms lo hi) : opnB ms lo hi = false := by
  cases e : opnB ms lo hi with
  | false => rfl
  | true => exact absurd (opnB_iff.mp e) h
noncomputable def openL (n : Int) (rows T : List (List Int)) : List (List Int) := (tiesL n rows).filter fun t => opnB (ledM n rows T) (t.getD 0 0).toNat (t.getD 1 0).toNat
def spDetour (K : PySem.W.Frag) : Sp := fun vs H Q _ => ∃ (D t : Addr) (ms : List Nat) (lo hi : Nat), vs = [.ref D, .ref t] ∧ SqL K H D ((natI ms).map V.int) ∧ SqT K H t [.int lo, .int hi] ∧ lo < ms.length ∧ hi < ms.length ∧ lo ≠ hi ∧ ms.length ≤ 45 ∧ (∀ m ∈ ms, m < 2 ^ ms.length) ∧
  (Opn ms lo hi → ∀ H', Same H H' → Q .non H') ∧ (¬ Opn ms lo hi → ∀ p H', Same H H' → Q (.ref p) H')
noncomputable def openX (n : Int) (rows : List (List Int)) (d : PyData) : Except (Str × Int) PyData := if isSorting n rows d then .ok (dRows (openL n rows (toT d))) else .error ("sorting", -1)
noncomputable def fallsX (n : Int) (rows : List (List Int)) (d : PyData) : Except (Str × Int) PyData := if isSorting n rows d then .ok (dRows ((openL n rows (toT d)).filter fun t => decide (t ∈ toT d))) else .error ("sorting", -1)
noncomputable def risesX (n : Int) (rows : List (List Int)) (d : PyData) : Except (Str × Int) PyData := if isSorting n rows d then .ok (dRows ((openL n rows (toT d)).filter fun t => !decide (t ∈ toT d))) else .error ("sorting", -1)
theorem cutM_length {ms : List Nat} {x y : Nat} : (cutM ms x y).length = ms.length := by unfold cutM; rw [List.length_set]
theorem cutM_lt {ms : List Nat} {x y : Nat} (hx : x < ms.length) (hy : y < ms.length) (hms : ∀ m ∈ ms, m < 2 ^ ms.length) : ∀ m ∈ cutM ms x y, m < 2 ^ (cutM ms x y).length := by
  intro m hm
  rw [cutM_length]
  unfold cutM at hm
  rcases List.mem_or_eq_of_mem_set hm with z | z
  · exact hms m z
  · rw [z]
    exact Nat.xor_lt_two_pow (hms _ (List.mem_of_getElem? (getD_some hx))) (Nat.pow_lt_pow_right (by decide) hy)
section
variable {P : Program} {w : World} {K : PySem.W.Frag} {mg : Str → Option Value} {base : Heap} {ad : Nat → Addr} {fd : Nat → FuncData}
theorem ok_detour (T : Txt K mg ad fd) : FnOk P w K mg base CX0 3 (ad 34) (fd 34) ["out", "tie"] (spDetour K) := by
  refine T.F_detour.ok sc_detour (fun vs H Q E h => ?_) (fun cdv A outer s H vs Q E hr h => ?_)
  · obtain ⟨D, t, ms, lo, hi, rfl, _⟩ := h
    rfl
  · obtain ⟨D, t, ms, lo, hi, rfl, hD, ht, hlo, hhi, hne, hz, hms, k1, k2⟩ := h
    refine ⟨_, (pss_cons (ps_asg (pe_call (ok_ahead_behind T) (hr.mono (by decide)) rfl T.m_ahead_behind T.F_ahead_behind.kp (b_ahead_behind T) .nil pass0 (pa_cons (pv 0) (pa_cons (pv 1) pa_nil))) (pg_tup rfl (pgs_cons (pg_name (i := 3) (x := "ahead") sc_detour.nd rfl (Or.inl rfl)) (pgs_cons (pg_name (i := 4) (x := "behind") sc_detour.nd rfl (Or.inl rfl)) pgs_nil))))
  (pss_cons (ps_set (i := 2) sc_detour.nd rfl (Or.inl rfl) (pe_callTy (lstOf K) (by rfl) T.g_list (by decide +kernel) (pa_cons (pv 0) pa_nil)))
  (pss_cons (ps_asg (pe_op op_xor (pe_ix (ixL K) (pv 2) (pv 3) (fun _ _ => rfl)) (pe_op op_shl pe_int (pv 4))) (pg_sub (pv 2) (pv 3) set_list))
  (pss_one (ps_ret (pe_call (ok_way_in T) (hr.mono (by decide)) rfl T.m_way_in T.F_way_in.kp (b_way_in T) .nil pass0 (pa_cons (pv 2) (pa_cons (pv 3) (pa_cons (pv 4) pa_nil))))))))), ?_⟩
    refine ⟨_, rfl, _, rfl, D, t, ms, lo, hi, rfl, hD, ht, hlo, hhi, fun p hp => ?_⟩
    obtain ⟨x, y, exy, hx, hy, hxy, ho⟩ : ∃ x y : Nat, aheadB ms lo hi = [(x : Int), (y : Int)] ∧ x < ms.length ∧ y < ms.length ∧ x ≠ y ∧ (Opn ms lo hi ↔ ¬ Reach (cutM ms x y) x y) := by
      unfold aheadB Opn
      cases c : (ms.getD lo 0).testBit hi with
      | true => exact ⟨lo, hi, rfl, hlo, hhi, hne, Iff.rfl⟩
      | false => exact ⟨hi, lo, rfl, hhi, hlo, fun z => hne z.symm, by rw [if_neg Bool.false_ne_true]⟩
    rw [exy]
    have s1 := same_upd (o := .tup ([(x : Int), (y : Int)].map V.int)) hp
    have ht1 : upd H p (.tup ([(x : Int), (y : Int)].map V.int)) p = some (.tup [.int (x : Int), .int (y : Int)]) := upd_same
    generalize upd H p (.tup ([(x : Int), (y : Int)].map V.int)) = H1 at *
    refine ⟨p, _, rfl, SqT.of ht1, rfl, _, _, rfl, _, _, rfl, rfl, ?_⟩
    refine ⟨_, rfl, D, _, rfl, .inl (s1.seq hD), fun C hC => ?_⟩
    have hCn : H C = none := s1.free hC
    refine ⟨_, rfl, _, rfl, C, _, _, _, rfl, rfl, SqL.of upd_same, atI_nat (natI_get (getD_some hx)), _, rfl, 1, (y : Int), rfl, rfl, ⟨by omega, by omega, by decide⟩, _, _, rfl, rfl, _, rfl, _, rfl, C, _, (x : Int), x, rfl, rfl, upd_same, ixN_nat (by rw [List.length_map, natI_length]; exact hx), ?_⟩
    have ez : Builtin.bitXor ((ms.getD x 0 : Nat) : Int) (1 * 2 ^ ((y : Int)).toNat) = ((ms.getD x 0 ^^^ 2 ^ y : Nat) : Int) := by
      rw [shl1 (by omega), xor_nat]
      rfl
    refine ⟨_, rfl, _, rfl, _, rfl, C, cutM ms x y, x, y, rfl, SqL.of ?_, by rw [cutM_length]; exact hz, cutM_lt hx hy hms, by rw [cutM_length]; exact hx, by rw [cutM_length]; exact hy, hxy, fun hr H' s' => k1 (ho.mpr hr) _ ((same_upd2 hCn (same_upd2 hCn s1)).trans s'), fun p ws H' s' _ hr => k2 (fun z => ho.mp z hr) _ _ ((same_upd2 hCn (same_upd2 hCn s1)).trans s')⟩
    rw [upd_same]
    show some (HO.lst (((natI ms).map V.int).set x (.int (Builtin.bitXor ((ms.getD x 0 : Nat) : Int) (1 * 2 ^ ((y : Int)).toNat))))) = _
    rw [ez, natI_set]
    rfl
end
end LK
namespace LK
open PySem PySem.Spec PyProof.Rows L2
theorem ledM_lt {n : Int} {rows T : List (List Int)} (hin : RowsIn n rows) : ∀ m ∈ ledM n rows T, m < 2 ^ (ledM n rows T).length := by
  intro m hm
  obtain ⟨x, hx⟩ := List.getElem?_of_mem hm
  refine lt_of_bits fun y hy => ?_
  rw [(ledM_ok hin).2 x m hx y] at hy
  have := led_in hin hy
  rw [ledM_length]
  omega
theorem openL_len {n : Int} {rows T : List (List Int)} (h : n ≤ 45) : (openL n rows T).length ≤ 1000 := Nat.le_trans (List.length_filter_le _ _) (tiesL_len rows h)
section
variable {P : Program} {w : World} {K : PySem.W.Frag} {mg : Str → Option Value} {base : Heap} {ad : Nat → Addr} {fd : Nat → FuncData}
theorem ok_open_ties (T : Txt K mg ad fd) : FnOk P w K mg base (L2.CX P w) 9 (ad 65) (fd 65) ["book", "sorting"] (spX K (ad 18) (fun n rows _ => In45 n rows) openX) := by
  refine T.F_open_ties.okX sc_open_ties (fun vs H Q E h => ?_) (fun cdv A outer s H vs Q E hr h => ?_)
  · obtain ⟨v, u, d, n, rows, rfl, _⟩ := h
    rfl
  · obtain ⟨v, u, d, n, rows, rfl, h, hu, ⟨hin, hn0, hn1⟩, k⟩ := h
    refine ⟨_, (pss_cons (ps_expr (pe_call (ok_need T) (hr.mono (by decide)) rfl T.m_need T.F_need.kp (b_need T) .nil (passes_call (takes_of rfl rfl rfl rfl) fun _ _ _ _ h => h) (pa_cons (pe_call (ok_is_sorting T) (hr.mono (by decide)) rfl T.m_is_sorting T.F_is_sorting.kp (b_is_sorting T) .nil pass0 (pa_cons (pv 0) (pa_cons (pv 1) pa_nil))) (pa_cons pe_str pa_nil))))
  (pss_cons (ps_set (i := 2) sc_open_ties.nd rfl (Or.inr rfl) (pe_call (ok_leading_masks T) (hr.mono (by decide)) rfl T.m_leading_masks T.F_leading_masks.kp (b_leading_masks T) .nil pass0 (pa_cons (pv 0) (pa_cons (pv 1) pa_nil))))
  (pss_one (ps_ret (pe_callTy (tupOf K) (by rfl) T.g_tuple (by decide +kernel) (pa_cons (pe_lc (own := [("tie", 3)]) (g := gName 3) rfl sc_open_ties.nd (piT K (pe_call (ok_ties_of T) (hr.mono (by decide)) rfl T.m_ties_of T.F_ties_of.kp (b_ties_of T) .nil pass0 (pa_cons (pv 0) pa_nil))) (blkOk_by (N := ["book", "sorting", "out", "tie"]) (sc := defScope s_open_ties) (by decide +kernel)) (fun _ _ _ _ _ => (pg_name (i := 3) (x := "tie") sc_open_ties.nd rfl (Or.inl rfl))) (fun _ _ _ _ _ => (pts_one (pt_cmpR op_isN (pe_call (ok_detour T) (hr.mono (by decide)) rfl T.m_detour T.F_detour.kp (b_detour T) .nil pass0 (pa_cons (pv 2) (pa_cons (pv 3) pa_nil))) pe_non (nomark _)))) (fun _ _ _ _ _ => (pv 3))) pa_nil)))))), ?_⟩
    refine ⟨_, rfl, _, rfl, v, u, d, n, rows, rfl, h, hu, hin, hn0, hn1, fun H1 s1 => ?_⟩
    cases e : isSorting n rows d with
    | false =>
      have ek : openX n rows d = .error ("sorting", -1) := by simp [openX, e]
      rw [ek] at k
      exact ⟨false, _, rfl, (fun z => by cases z), fun _ => k.same s1⟩
    | true =>
      have ek : openX n rows d = .ok (dRows (openL n rows (toT d))) := by simp [openX, e]
      rw [ek] at k
      obtain ⟨ed, hT, hac⟩ := isSorting_in e
      have hu1 := hu.same s1
      rw [ed] at hu1
      refine ⟨true, _, rfl, (fun _ => ?_), fun z => by cases z⟩
      refine ⟨_, rfl, _, rfl, v, u, n, rows, toT d, rfl, h.same s1, hu1, hin, hn0, hn1, hT, fun p ms H2 s2 hp hm L => ?_⟩
      have em := led_eq hin L
      subst em
      refine ⟨_, rfl, v, n, rows, rfl, h.same (s1.trans s2), hin, hn0, hn1, fun u2 H3 s3 ru => ?_⟩
      cases ru with
      | @tup tt xs ds st lt rt =>
      have lx : xs.length = (tiesL n rows).length := by rw [rt.length, List.length_map]
      refine ⟨tt, rfl, ⟨_, st⟩, fun D2 hD2 => ?_⟩
      refine lcT (K := K) (xs := xs) (fun j => opnB (ledM n rows (toT d)) (((tiesL n rows).getD j []).getD 0 0).toNat (((tiesL n rows).getD j []).getD 1 0).toNat) (fun j => dTup ((tiesL n rows).getD j [])) hD2 st lt (fun _ _ _ => noL_dTup _) (fun i x H4 hi s4 Q1 Q2 k1 k2 => ?_) (fun ys H4 s4 hy r4 => ?_)
      · obtain ⟨t, a2, hn, rfl, ta⟩ := rt.row hi
        have ta := ta.same s4
        have en : (tiesL n rows).getD i [] = t := by rw [List.getD_eq_getElem?_getD, hn]; rfl
        rw [en] at k1 k2
        obtain ⟨lo, hi2, et, hlt, hhn, _⟩ := tiesL_in (List.mem_of_getElem? hn)
        subst et
        have k1 : opnB (ledM n rows (toT d)) lo hi2 = true → ∀ y H2, Same H4 H2 → Rp K H2 y (dTup [(lo : Int), (hi2 : Int)]) → Q1 y H2 := k1
        have k2 : opnB (ledM n rows (toT d)) lo hi2 = false → ∀ H2, Same H4 H2 → Q2 H2 := k2
        refine ⟨rfl, _, rfl, _, rfl, p, a2, _, lo, hi2, rfl, SqL.of (s4 _ _ (s3 _ _ hm)), ta.1, by rw [ledM_length]; omega, by rw [ledM_length]; omega, by omega, by rw [ledM_length]; omega, ledM_lt hin, fun ho H5 s5 => ?_, fun ho q H5 s5 => ?_⟩
        · refine ⟨rfl, _, rfl, ?_⟩
          show if decide (V.non = V.non) = true then _ else _
          rw [decide_eq_true rfl]
          exact iteT ⟨_, rfl, k1 (opnB_iff.mpr ho) _ _ s5 (ta.same s5).rp⟩
        · refine ⟨rfl, _, rfl, ?_⟩
          show if decide (V.ref q = V.non) = true then _ else _
          rw [decide_eq_false (fun z => by cases z)]
          exact iteF (k2 (opnB_not ho) _ s5)
      · have ez : (((List.range xs.length).filter fun j => opnB (ledM n rows (toT d)) (((tiesL n rows).getD j []).getD 0 0).toNat (((tiesL n rows).getD j []).getD 1 0).toNat).map fun j => dTup ((tiesL n rows).getD j [])) = (openL n rows (toT d)).map dTup := by
          rw [lx, filter_map_range (fun t : List Int => opnB (ledM n rows (toT d)) (t.getD 0 0).toNat (t.getD 1 0).toNat) (fun t => dTup t) [] (tiesL n rows)]
          rfl
        rw [ez] at r4
        have ly : ys.length ≤ 1000 := by
          rw [r4.length, List.length_map]
          exact openL_len hn1
        dsimp only [tNil]
        refine tupL_use (SqL.of hy) fun p H5 s5 hp => ?_
        exact k _ _ ((((s1.trans s2).trans s3).trans s4).trans s5) (.tup hp ly (r4.same s5))
theorem ok_falls_of (T : Txt K mg ad fd) : FnOk P w K mg base (L2.CX P w) 10 (ad 66) (fd 66) ["book", "sorting"] (spX K (ad 18) (fun n rows _ => In45 n rows) fallsX) := by
  refine T.F_falls_of.okX sc_falls_of (fun vs H Q E h => ?_) (fun cdv A outer s H vs Q E hr h => ?_)
  · obtain ⟨v, u, d, n, rows, rfl, _⟩ := h
    rfl
  · obtain ⟨v, u, d, n, rows, rfl, h, hu, ⟨hin, hn0, hn1⟩, k⟩ := h
    refine ⟨_, (pss_one (ps_ret (pe_callTy (tupOf K) (by rfl) T.g_tuple (by decide +kernel) (pa_cons (pe_lc (own := [("tie", 2)]) (g := gName 2) rfl sc_falls_of.nd (piT K (pe_call (ok_open_ties T) (hr.mono (by decide)) rfl T.m_open_ties T.F_open_ties.kp (b_open_ties T) .nil (passes_call (takes_of rfl rfl rfl rfl) fun _ _ _ _ h => h) (pa_cons (pv 0) (pa_cons (pv 1) pa_nil)))) (blkOk_by (N := ["book", "sorting", "tie"]) (sc := defScope s_falls_of) (by decide +kernel)) (fun _ _ _ _ _ => (pg_name (i := 2) (x := "tie") sc_falls_of.nd rfl (Or.inl rfl))) (fun _ _ _ _ _ => (pts_one (pt_cmpR (inR K (hu65 hr)) (pv 2) (pv 1) (by with_unfolding_all rfl)))) (fun _ _ _ _ _ => (pv 2))) pa_nil)))), ?_⟩
    refine ⟨_, rfl, _, rfl, v, u, d, n, rows, rfl, h, hu, ⟨hin, hn0, hn1⟩, ?_⟩
    cases e : isSorting n rows d with
    | false =>
      have ek : fallsX n rows d = .error ("sorting", -1) := by simp [fallsX, e]
      have eo : openX n rows d = .error ("sorting", -1) := by simp [openX, e]
      rw [ek] at k
      rw [eo]
      exact k
    | true =>
      have ek : fallsX n rows d = .ok (dRows ((openL n rows (toT d)).filter fun t => decide (t ∈ toT d))) := by simp [fallsX, e]
      have eo : openX n rows d = .ok (dRows (openL n rows (toT d))) := by simp [openX, e]
      rw [ek] at k
      rw [eo]
      obtain ⟨ed, hT, hac⟩ := isSorting_in e
      have hu1 := hu
      rw [ed] at hu1
      intro u2 H3 s3 ru
      cases ru with
      | @tup tt xs ds st lt rt =>
      have lx : xs.length = (openL n rows (toT d)).length := by rw [rt.length, List.length_map]
      refine ⟨tt, rfl, ⟨_, st⟩, fun D2 hD2 => ?_⟩
      refine lcT (K := K) (xs := xs) (fun j => decide ((openL n rows (toT d)).getD j [] ∈ toT d)) (fun j => dTup ((openL n rows (toT d)).getD j [])) hD2 st lt (fun _ _ _ => noL_dTup _) (fun i x H4 hi s4 Q1 Q2 k1 k2 => ?_) (fun ys H4 s4 hy r4 => ?_)
      · obtain ⟨t, a2, hn, rfl, ta⟩ := rt.row hi
        have ta := ta.same s4
        have en : (openL n rows (toT d)).getD i [] = t := by rw [List.getD_eq_getElem?_getD, hn]; rfl
        rw [en] at k1 k2
        refine ⟨rfl, _, rfl, _, rfl, t, toT d, ta.rp, hu1.same (s3.trans s4), _, rfl, ?_⟩
        show if (decide (t ∈ toT d)) = true then _ else _
        cases c : (decide (t ∈ toT d)) with
        | true => exact iteT ⟨_, rfl, k1 c _ _ (Same.refl _) ta.rp⟩
        | false => exact iteF (k2 c _ (Same.refl _))
      · have ez : (((List.range xs.length).filter fun j => decide ((openL n rows (toT d)).getD j [] ∈ toT d)).map fun j => dTup ((openL n rows (toT d)).getD j [])) = ((openL n rows (toT d)).filter fun t => decide (t ∈ toT d)).map dTup := by
          rw [lx, filter_map_range (fun t : List Int => decide (t ∈ toT d)) (fun t => dTup t) [] (openL n rows (toT d))]
        rw [ez] at r4
        have ly : ys.length ≤ 1000 := by
          rw [r4.length, List.length_map]
          exact Nat.le_trans (List.length_filter_le _ _) (by omega)
        dsimp only [tNil]
        refine tupL_use (SqL.of hy) fun p H5 s5 hp => ?_
        exact k _ _ ((s3.trans s4).trans s5) (.tup hp ly (r4.same s5))
theorem ok_rises_of (T : Txt K mg ad fd) : FnOk P w K mg base (L2.CX P w) 10 (ad 67) (fd 67) ["book", "sorting"] (spX K (ad 18) (fun n rows _ => In45 n rows) risesX) := by
  refine T.F_rises_of.okX sc_rises_of (fun vs H Q E h => ?_) (fun cdv A outer s H vs Q E hr h => ?_)
  · obtain ⟨v, u, d, n, rows, rfl, _⟩ := h
    rfl
  · obtain ⟨v, u, d, n, rows, rfl, h, hu, ⟨hin, hn0, hn1⟩, k⟩ := h
    refine ⟨_, (pss_one (ps_ret (pe_callTy (tupOf K) (by rfl) T.g_tuple (by decide +kernel) (pa_cons (pe_lc (own := [("tie", 2)]) (g := gName 2) rfl sc_rises_of.nd (piT K (pe_call (ok_open_ties T) (hr.mono (by decide)) rfl T.m_open_ties T.F_open_ties.kp (b_open_ties T) .nil (passes_call (takes_of rfl rfl rfl rfl) fun _ _ _ _ h => h) (pa_cons (pv 0) (pa_cons (pv 1) pa_nil)))) (blkOk_by (N := ["book", "sorting", "tie"]) (sc := defScope s_rises_of) (by decide +kernel)) (fun _ _ _ _ _ => (pg_name (i := 2) (x := "tie") sc_rises_of.nd rfl (Or.inl rfl))) (fun _ _ _ _ _ => (pts_one (pt_cmpR (notInR K (hu65 hr)) (pv 2) (pv 1) (by with_unfolding_all rfl)))) (fun _ _ _ _ _ => (pv 2))) pa_nil)))), ?_⟩
    refine ⟨_, rfl, _, rfl, v, u, d, n, rows, rfl, h, hu, ⟨hin, hn0, hn1⟩, ?_⟩
    cases e : isSorting n rows d with
    | false =>
      have ek : risesX n rows d = .error ("sorting", -1) := by simp [risesX, e]
      have eo : openX n rows d = .error ("sorting", -1) := by simp [openX, e]
      rw [ek] at k
      rw [eo]
      exact k
    | true =>
      have ek : risesX n rows d = .ok (dRows ((openL n rows (toT d)).filter fun t => !decide (t ∈ toT d))) := by simp [risesX, e]
      have eo : openX n rows d = .ok (dRows (openL n rows (toT d))) := by simp [openX, e]
      rw [ek] at k
      rw [eo]
      obtain ⟨ed, hT, hac⟩ := isSorting_in e
      have hu1 := hu
      rw [ed] at hu1
      intro u2 H3 s3 ru
      cases ru with
      | @tup tt xs ds st lt rt =>
      have lx : xs.length = (openL n rows (toT d)).length := by rw [rt.length, List.length_map]
      refine ⟨tt, rfl, ⟨_, st⟩, fun D2 hD2 => ?_⟩
      refine lcT (K := K) (xs := xs) (fun j => !decide ((openL n rows (toT d)).getD j [] ∈ toT d)) (fun j => dTup ((openL n rows (toT d)).getD j [])) hD2 st lt (fun _ _ _ => noL_dTup _) (fun i x H4 hi s4 Q1 Q2 k1 k2 => ?_) (fun ys H4 s4 hy r4 => ?_)
      · obtain ⟨t, a2, hn, rfl, ta⟩ := rt.row hi
        have ta := ta.same s4
        have en : (openL n rows (toT d)).getD i [] = t := by rw [List.getD_eq_getElem?_getD, hn]; rfl
        rw [en] at k1 k2
        refine ⟨rfl, _, rfl, _, rfl, t, toT d, ta.rp, hu1.same (s3.trans s4), _, rfl, ?_⟩
        show if (!decide (t ∈ toT d)) = true then _ else _
        cases c : (!decide (t ∈ toT d)) with
        | true => exact iteT ⟨_, rfl, k1 c _ _ (Same.refl _) ta.rp⟩
        | false => exact iteF (k2 c _ (Same.refl _))
      · have ez : (((List.range xs.length).filter fun j => !decide ((openL n rows (toT d)).getD j [] ∈ toT d)).map fun j => dTup ((openL n rows (toT d)).getD j [])) = ((openL n rows (toT d)).filter fun t => !decide (t ∈ toT d)).map dTup := by
          rw [lx, filter_map_range (fun t : List Int => !decide (t ∈ toT d)) (fun t => dTup t) [] (openL n rows (toT d))]
        rw [ez] at r4
        have ly : ys.length ≤ 1000 := by
          rw [r4.length, List.length_map]
          exact Nat.le_trans (List.length_filter_le _ _) (by omega)
        dsimp only [tNil]
        refine tupL_use (SqL.of hy) fun p H5 s5 hp => ?_
        exact k _ _ ((s3.trans s4).trans s5) (.tup hp ly (r4.same s5))
end
end LK
namespace LK
open PySem PySem.Spec PyProof.Rows L2
/-! ### lists of ints -/
def dLst (ns : List Int) : PyData := .list (ns.map .int)
def LstI (K : PySem.W.Frag) (H : Hp) (a : Addr) (ns : List Int) : Prop := SqL K H a (ns.map V.int) ∧ ns.length ≤ 1000
theorem LstI.rp {K : PySem.W.Frag} {H : Hp} {a : Addr} {ns : List Int} (h : LstI K H a ns) : Rp K H (.ref a) (dLst ns) := .lst h.1 (by rw [List.length_map]; exact h.2) (RpAll.ints ns)
theorem LstI.same {K : PySem.W.Frag} {H H' : Hp} {a : Addr} {ns : List Int} (e : Same H H') (h : LstI K H a ns) : LstI K H' a ns := ⟨e.seq h.1, h.2⟩
theorem Rp.lstI {K : PySem.W.Frag} {H : Hp} {v : V} {ns : List Int} (h : Rp K H v (dLst ns)) : ∃ a, v = .ref a ∧ LstI K H a ns := by
  generalize hd : dLst ns = d at h
  cases h with
  | @lst a xs ds s l r =>
    have e : ds = ns.map PyData.int := by
      unfold dLst at hd
      injection hd with hd
      exact hd.symm
    subst e
    have ex := r.ofInts
    subst ex
    exact ⟨a, rfl, s, by rw [List.length_map] at l; exact l⟩
  | _ => exact absurd hd (by simp [dLst])
theorem Rp.lstA {K : PySem.W.Frag} {H : Hp} {v : V} {ds : List PyData} (h : Rp K H v (.list ds)) : ∃ a xs, v = .ref a ∧ SqL K H a xs ∧ xs.length ≤ 1000 ∧ RpAll K H xs ds := by
  cases h with
  | lst s l r => exact ⟨_, _, rfl, s, l, r⟩
theorem Rp.tupA {K : PySem.W.Frag} {H : Hp} {v : V} {ds : List PyData} (h : Rp K H v (.tuple ds)) : ∃ a xs, v = .ref a ∧ SqT K H a xs ∧ xs.length ≤ 1000 ∧ RpAll K H xs ds := by
  cases h with
  | tup s l r => exact ⟨_, _, rfl, s, l, r⟩
theorem RpAll.rowL {K : PySem.W.Frag} {H : Hp} {xs : List V} {rows : List (List Int)} {i : Nat} {x : V} (r : RpAll K H xs (rows.map dLst)) (h : xs[i]? = some x) : ∃ ns a, rows[i]? = some ns ∧ x = .ref a ∧ LstI K H a ns := by
  obtain ⟨d, hd, rd⟩ := r.get h
  rw [List.getElem?_map] at hd
  cases e : rows[i]? with
  | none => rw [e] at hd; cases hd
  | some ns =>
    rw [e] at hd
    have ed := (Option.some.inj hd).symm
    subst ed
    obtain ⟨a, rfl, t⟩ := rd.lstI
    exact ⟨ns, a, rfl, rfl, t⟩
end LK
/-! what lays data anew, told by the data alone; list + list however tracked -/
namespace LK
open PySem PySem.Spec PyProof.Rows L2
def rCatL (K : PySem.W.Frag) : R2 := fun x y H Q => ∃ a b xs ys, x = .ref a ∧ y = .ref b ∧ SqL K H a xs ∧ SqL K H b ys ∧ xs.length + ys.length ≤ 2000 ∧ ∀ p, H p = none → Q (.ref p) (upd H p (.lst (xs ++ ys)))
theorem catL {X : Cx} (K : PySem.W.Frag) (hK : X.K = K := by rfl) : OpR X (binaryOp .Add) (rCatL K) := by
  subst hK
  intro pins s σ H x y v u Q I rx ry h
  obtain ⟨a, b, xs, ys, rfl, rfl, ha, hb, hz, q⟩ := h
  cases rx
  cases ry
  obtain ⟨its, r, p, z⟩ := I.list ha
  obtain ⟨its2, r2, p2, z2⟩ := I.list hb
  obtain ⟨⟨cls, dd, data, sl⟩, ho, hc, n, hd⟩ := id p.isList
  obtain ⟨⟨cls2, dd2, data2, sl2⟩, ho2, hc2, n2, hd2⟩ := id p2.isList
  simp only at hc hd hc2 hd2
  subst hc hd hc2 hd2
  have l1 := r.length
  have l2 := r2.length
  have hs : (2000 : Nat) ≤ sizeLine := by decide
  have ea : its.toArray ++ its2.toArray = (its ++ its2).toArray := by simp
  refine concat_meets ⟨_, ho, rfl⟩ ⟨_, ho2, rfl⟩ noFill_list_add seq_list_add PySem.F.slot_list_add PySem.F.entry_list_add (PySem.F.args_list_add_2 _ _) (list_addW a b its.toArray its2.toArray n n2 dd dd2 sl sl2 (by rw [List.size_toArray, List.size_toArray]; omega)) ⟨ho, ho2, ?_⟩
  rw [ea]
  exact ⟨.ref _, _, I.lnew (t' := s.toks) (r.append r2) (by rw [List.length_append]; omega), rfl, q _ I.fresh⟩

/-- t yields the data d, and lays only what is new; the law's state may be drawn from -/
def Yld (K : PySem.W.Frag) (S p : Addr) (H0 : Hp) (σ : L2.St) (t : TE) (d : PyData) : Prop := ∀ H (Q : VK), Mv S p H0 H → (∀ v H', Mv S p H H' → Rp K (hide S H') v d → Q v H') → t σ H Q
def YldA (K : PySem.W.Frag) (S p : Addr) (H0 : Hp) (σ : L2.St) (t : TA) (ds : List PyData) : Prop := ∀ H Q, Mv S p H0 H → (∀ vs H', Mv S p H H' → RpAll K (hide S H') vs ds → Q vs H') → t σ H Q
section
variable {K : PySem.W.Frag} {S p : Addr} {H0 : Hp} {σ : L2.St} {t ta tb : TE} {tt : TA} {d e : PyData} {ds : List PyData}
theorem Yld.use {Q : VK} {H : Hp} (y : Yld K S p H σ t d) (st : StOk H S p) (k : ∀ v H', Mv S p H H' → Rp K (hide S H') v d → Q v H') : t σ H Q := y H Q (Mv.refl st) k
theorem Yld.at {H1 : Hp} (y : Yld K S p H0 σ t d) (m : Mv S p H0 H1) : Yld K S p H1 σ t d := fun H Q m2 k => y H Q (m.trans m2) k
theorem y_int {i : Int} : Yld K S p H0 σ (tC (.int i)) (.int i) := fun H Q m k => k _ _ (Mv.refl m.ok) (.int i)
theorem y_bl {b : Bool} : Yld K S p H0 σ (tC (.bl b)) (.bool b) := fun H Q m k => k _ _ (Mv.refl m.ok) (.bl b)
theorem y_non : Yld K S p H0 σ (tC .non) .none := fun H Q m k => k _ _ (Mv.refl m.ok) .non
theorem y_str {x : Str} : Yld K S p H0 σ (tC (.str x)) (.str x) := fun H Q m k => k _ _ (Mv.refl m.ok) (.str x)
theorem y_neg {i : Int} (y : Yld K S p H0 σ t (.int i)) : Yld K S p H0 σ (tUn (rU fun i => .int (-i)) t) (.int (-i)) := fun H Q m k =>
  y H _ m fun v H' m' r => by
    cases r
    exact ⟨i, rfl, k _ _ m' (.int _)⟩
theorem y_var {i : Nat} {v : V} (h : σ[i]? = some (some v)) (r : Rp K (hide S H0) v d) : Yld K S p H0 σ (tVar i) d := fun H Q m k => ⟨v, h, k _ _ (Mv.refl m.ok) (m.rp r)⟩
theorem y_add {i j : Int} (ya : Yld K S p H0 σ ta (.int i)) (yb : Yld K S p H0 σ tb (.int j)) : Yld K S p H0 σ (tOp (rI0 fun i j => .int (i + j)) ta tb) (.int (i + j)) := fun H Q m k =>
  ya H _ m fun v H' m' r => by
    cases r
    refine yb H' _ (m.trans m') fun v2 H2 m2 r2 => ?_
    cases r2
    exact ⟨i, j, rfl, rfl, k _ _ (m'.trans m2) (.int _)⟩
theorem y_sub {i j : Int} (ya : Yld K S p H0 σ ta (.int i)) (yb : Yld K S p H0 σ tb (.int j)) : Yld K S p H0 σ (tOp (rI0 fun i j => .int (i - j)) ta tb) (.int (i - j)) := fun H Q m k =>
  ya H _ m fun v H' m' r => by
    cases r
    refine yb H' _ (m.trans m') fun v2 H2 m2 r2 => ?_
    cases r2
    exact ⟨i, j, rfl, rfl, k _ _ (m'.trans m2) (.int _)⟩
theorem ya_nil : YldA K S p H0 σ tNil [] := fun H Q m k => k _ _ (Mv.refl m.ok) .nil
theorem ya_cons (y : Yld K S p H0 σ t d) (ys : YldA K S p H0 σ tt ds) : YldA K S p H0 σ (tCons t tt) (d :: ds) := fun H Q m k =>
  y H _ m fun v H' m' r => ys H' _ (m.trans m') fun vs H2 m2 r2 => k _ _ (m'.trans m2) (.cons (m2.rp r) r2)
theorem rp_tupNew {H : Hp} {q : Addr} {xs : List V} (hS : q ≠ S) (r : RpAll K (hide S H) xs ds) (hq : H q = none) (hz : xs.length ≤ 1000) : Rp K (hide S (upd H q (.tup xs))) (.ref q) (.tuple ds) :=
  .tup (SqT.of (by rw [hide_ne hS, upd_same])) hz (r.same (hide_mono (same_upd hq)))
theorem rp_lstNew {H : Hp} {q : Addr} {xs : List V} (hS : q ≠ S) (r : RpAll K (hide S H) xs ds) (hq : H q = none) (hz : xs.length ≤ 1000) : Rp K (hide S (upd H q (.lst xs))) (.ref q) (.list ds) :=
  .lst (SqL.of (by rw [hide_ne hS, upd_same])) hz (r.same (hide_mono (same_upd hq)))
theorem le_line {n : Nat} (h : n ≤ 1000) : n ≤ sizeLine := Nat.le_of_lt (small1000 h)
theorem y_tup (y : YldA K S p H0 σ tt ds) (hz : ds.length ≤ 1000 := by exact Nat.le_of_ble_eq_true rfl) : Yld K S p H0 σ (tTup tt) (.tuple ds) := fun H Q m k =>
  y H _ m fun vs H' m' r => by
    have hl : vs.length ≤ 1000 := by rw [r.length]; exact hz
    refine ⟨le_line hl, fun q hq => ?_⟩
    exact k _ _ (m'.then (same_upd hq)) (rp_tupNew (free_ne m'.ok hq) r hq hl)
theorem y_lst (y : YldA K S p H0 σ tt ds) (hz : ds.length ≤ 1000 := by exact Nat.le_of_ble_eq_true rfl) : Yld K S p H0 σ (tLst tt) (.list ds) := fun H Q m k =>
  y H _ m fun vs H' m' r => by
    have hl : vs.length ≤ 1000 := by rw [r.length]; exact hz
    refine ⟨le_line hl, fun q hq => ?_⟩
    exact k _ _ (m'.then (same_upd hq)) (rp_lstNew (free_ne m'.ok hq) r hq hl)
theorem rgV_ints (a b : Int) : rgV a b = ((List.range (b - a).toNat).map fun i => a + ((i : Nat) : Int)).map V.int := by
  unfold rgV
  rw [List.map_map]
  rfl
def rgD (a b : Int) : List PyData := (List.range (b - a).toNat).map fun i => PyData.int (a + ((i : Nat) : Int))
theorem rgD_length (a b : Int) : (rgD a b).length = (b - a).toNat := by
  unfold rgD
  rw [List.length_map, List.length_range]
theorem rgV_rp {H : Hp} (a b : Int) : RpAll K H (rgV a b) (rgD a b) := by
  unfold rgV rgD
  generalize List.range (b - a).toNat = l
  induction l with
  | nil => exact .nil
  | cons x l ih => exact .cons (.int _) ih
theorem y_rg1L {b : Int} (y : Yld K S p H0 σ t (.int b)) (h : 0 ≤ b ∧ b ≤ 1000) : Yld K S p H0 σ (tLstRg (tRg1 t)) (.list (rgD 0 b)) := fun H Q m k =>
  y H _ m fun v H' m' r => by
    cases r
    refine ⟨b, rfl, .of_le (by omega) (by omega) (by omega) (by omega), fun q hq => ?_⟩
    exact k _ _ (m'.then (same_upd hq)) (rp_lstNew (free_ne m'.ok hq) (rgV_rp _ _) hq (by rw [rgV_length]; omega))
theorem y_rg1T {b : Int} (y : Yld K S p H0 σ t (.int b)) (h : 0 ≤ b ∧ b ≤ 1000) : Yld K S p H0 σ (tTupRg (tRg1 t)) (.tuple (rgD 0 b)) := fun H Q m k =>
  y H _ m fun v H' m' r => by
    cases r
    refine ⟨b, rfl, .of_le (by omega) (by omega) (by omega) (by omega), fun q hq => ?_⟩
    exact k _ _ (m'.then (same_upd hq)) (rp_tupNew (free_ne m'.ok hq) (rgV_rp _ _) hq (by rw [rgV_length]; omega))
theorem y_rg2T {a b : Int} (ya : Yld K S p H0 σ ta (.int a)) (yb : Yld K S p H0 σ tb (.int b)) (h : 0 ≤ a ∧ a ≤ 1000 ∧ 0 ≤ b ∧ b ≤ 1000) : Yld K S p H0 σ (tTupRg (tRg2 ta tb)) (.tuple (rgD a b)) := fun H Q m k =>
  ya H _ m fun v H' m' r => by
    cases r
    refine yb H' _ (m.trans m') fun v2 H2 m2 r2 => ?_
    cases r2
    refine ⟨a, b, rfl, rfl, .of_le (by omega) (by omega) (by omega) (by omega), fun q hq => ?_⟩
    exact k _ _ ((m'.trans m2).then (same_upd hq)) (rp_tupNew (free_ne m2.ok hq) (rgV_rp _ _) hq (by rw [rgV_length]; omega))
theorem y_catL {ds es : List PyData} (ya : Yld K S p H0 σ ta (.list ds)) (yb : Yld K S p H0 σ tb (.list es)) (h : ds.length + es.length ≤ 1000) : Yld K S p H0 σ (tOp (rCatL K) ta tb) (.list (ds ++ es)) := fun H Q m k =>
  ya H _ m fun v H' m' r => yb H' _ (m.trans m') fun v2 H2 m2 r2 => by
    obtain ⟨a, xs, rfl, ha, la, ra⟩ := (m2.rp r).lstA
    obtain ⟨b, ys, rfl, hb, lb, rb⟩ := r2.lstA
    have e1 := ra.length
    have e2 := rb.length
    refine ⟨a, b, xs, ys, rfl, rfl, (hide_same _ _).seq ha, (hide_same _ _).seq hb, by omega, fun q hq => ?_⟩
    exact k _ _ ((m'.trans m2).then (same_upd hq)) (rp_lstNew (free_ne m2.ok hq) (ra.app rb) hq (by rw [List.length_append]; omega))
theorem Rp.tupA' {H : Hp} {v : V} (h : Rp K H v (.tuple ds)) : ∃ a xs, v = .ref a ∧ SqT K H a xs ∧ xs.length ≤ 1000 ∧ RpAll K H xs ds := h.tupA
theorem y_catT {ds es : List PyData} (ya : Yld K S p H0 σ ta (.tuple ds)) (yb : Yld K S p H0 σ tb (.tuple es)) (h : ds.length + es.length ≤ 1000) : Yld K S p H0 σ (tOp (rCatA K) ta tb) (.tuple (ds ++ es)) := fun H Q m k =>
  ya H _ m fun v H' m' r => yb H' _ (m.trans m') fun v2 H2 m2 r2 => by
    obtain ⟨a, xs, rfl, ha, la, ra⟩ := (m2.rp r).tupA
    obtain ⟨b, ys, rfl, hb, lb, rb⟩ := r2.tupA
    have e1 := ra.length
    have e2 := rb.length
    obtain ⟨zs, hS⟩ := m2.ok.atS
    refine catA_use (seqT (hide_same _ _) ha) (seqT (hide_same _ _) hb) (by omega) fun q H3 s3 hq => ?_
    have m3 := (m'.trans m2).then s3
    obtain ⟨zs3, hS3⟩ := m3.ok.atS
    exact k _ _ m3 (.tup (seqT_hide hS3 hq) (by rw [List.length_append]; omega) ((ra.app rb).same (hide_mono s3)))
theorem y_repT {ds : List PyData} {n : Int} (ya : Yld K S p H0 σ ta (.tuple ds)) (yb : Yld K S p H0 σ tb (.int n)) (h : ds.length = 1 ∧ 2 ≤ n ∧ n ≤ 1000) : Yld K S p H0 σ (tOp (rRepT K) ta tb) (.tuple (List.replicate n.toNat ds).flatten) := fun H Q m k =>
  ya H _ m fun v H' m' r => yb H' _ (m.trans m') fun v2 H2 m2 r2 => by
    cases r2
    obtain ⟨a, xs, rfl, ha, la, ra⟩ := (m2.rp r).tupA
    have e1 := ra.length
    have rep : ∀ j : Nat, RpAll K (hide S H2) (List.replicate j xs).flatten (List.replicate j ds).flatten := fun j => by
      induction j with
      | zero => exact .nil
      | succ j ih =>
        rw [List.replicate_succ, List.replicate_succ, List.flatten_cons, List.flatten_cons]
        exact ra.app ih
    have hl : ∀ j : Nat, (List.replicate j xs).flatten.length = j * xs.length := fun j => by simp
    refine ⟨a, n, xs, rfl, rfl, seqT (hide_same _ _) ha, (fun e => by rw [e] at e1; simp at e1; omega), h.2.1, h.2.2, la, fun q hq => ?_⟩
    refine k _ _ ((m'.trans m2).then (same_upd hq)) (rp_tupNew (free_ne m2.ok hq) (rep _) hq ?_)
    rw [hl, e1, h.1]
    omega
theorem y_len {ds : List PyData} (y : Yld K S p H0 σ t (.list ds)) : Yld K S p H0 σ (tCB (rLenS K) (tCons t tNil)) (.int (ds.length : Nat)) := fun H Q m k =>
  y H _ m fun v H' m' r => by
    obtain ⟨a, xs, rfl, ha, la, ra⟩ := r.lstA
    have e1 := ra.length
    refine ⟨a, xs, rfl, .inl ((hide_same _ _).seq ha), ?_⟩
    rw [e1]
    exact k _ _ m' (.int _)
theorem y_lenT {ds : List PyData} (y : Yld K S p H0 σ t (.tuple ds)) : Yld K S p H0 σ (tCB (rLenS K) (tCons t tNil)) (.int (ds.length : Nat)) := fun H Q m k =>
  y H _ m fun v H' m' r => by
    obtain ⟨a, xs, rfl, ha, la, ra⟩ := r.tupA
    have e1 := ra.length
    refine ⟨a, xs, rfl, .inr (seqT (hide_same _ _) ha), ?_⟩
    rw [e1]
    exact k _ _ m' (.int _)
theorem y_ixT {ds : List PyData} {j : Nat} (ya : Yld K S p H0 σ ta (.tuple ds)) (yb : Yld K S p H0 σ tb (.int (j : Nat))) (h : ds[j]? = some d) : Yld K S p H0 σ (tOp (rIxT K) ta tb) d := fun H Q m k =>
  ya H _ m fun v H' m' r => yb H' _ (m.trans m') fun v2 H2 m2 r2 => by
    cases r2
    obtain ⟨a, xs, rfl, ha, la, ra⟩ := (m2.rp r).tupA
    obtain ⟨x, hx, rx⟩ := ra.getD h
    exact ⟨a, xs, (j : Nat), x, rfl, rfl, seqT (hide_same _ _) ha, at_of (j := j) rfl hx, k _ _ (m'.trans m2) rx⟩
theorem y_ixL {ds : List PyData} {j : Nat} (ya : Yld K S p H0 σ ta (.list ds)) (yb : Yld K S p H0 σ tb (.int (j : Nat))) (h : ds[j]? = some d) : Yld K S p H0 σ (tOp (rIxL K) ta tb) d := fun H Q m k =>
  ya H _ m fun v H' m' r => yb H' _ (m.trans m') fun v2 H2 m2 r2 => by
    cases r2
    obtain ⟨a, xs, rfl, ha, la, ra⟩ := (m2.rp r).lstA
    obtain ⟨x, hx, rx⟩ := ra.getD h
    exact ⟨a, xs, (j : Nat), x, rfl, rfl, (hide_same _ _).seq ha, at_of (j := j) rfl hx, k _ _ (m'.trans m2) rx⟩
theorem y_useL {Q : VK} {H : Hp} (y : Yld K S p H σ (tLst tt) d) (st : StOk H S p) (k : ∀ v H', Mv S p H H' → Rp K (hide S H') v d → Q v H') : tLst tt σ H Q := y H Q (Mv.refl st) k
theorem y_useT {Q : VK} {H : Hp} (y : Yld K S p H σ (tTup tt) d) (st : StOk H S p) (k : ∀ v H', Mv S p H H' → Rp K (hide S H') v d → Q v H') : tTup tt σ H Q := y H Q (Mv.refl st) k
theorem y_useO {r : R2} {Q : VK} {H : Hp} (y : Yld K S p H σ (tOp r ta tb) d) (st : StOk H S p) (k : ∀ v H', Mv S p H H' → Rp K (hide S H') v d → Q v H') : tOp r ta tb σ H Q := y H Q (Mv.refl st) k
/-- a list of data, and one of them drawn -/
theorem y_draw {ds : List PyData} {Q : VK} {H : Hp} (ya : Yld K S p H σ ta (.list ds)) (st : StOk H S p)
    (hb : ∀ H1 (Q1 : VK), Mv S p H H1 → (∀ (r : Int) H2, 0 ≤ r → r < (ds.length : Nat) → Mv S p H1 H2 → Q1 (.int r) H2) → tb σ H1 Q1)
    (k : ∀ v d H', d ∈ ds → Mv S p H H' → Rp K (hide S H') v d → Q v H') : tOp (rIxL K) ta tb σ H Q :=
  ya H _ (Mv.refl st) fun v H' m' r => hb H' _ m' fun z H2 h0 h1 m2 => by
    obtain ⟨a, xs, rfl, ha, la, ra⟩ := (m2.rp r).lstA
    have e1 := ra.length
    have hj : z.toNat < ds.length := by omega
    obtain ⟨x, hx, rx⟩ := ra.getD (List.getElem?_eq_getElem hj)
    exact ⟨a, xs, z, x, rfl, rfl, (hide_same _ _).seq ha, at_of (j := z.toNat) (by omega) hx, k _ _ _ (List.getElem_mem hj) (m'.trans m2) rx⟩
end
end LK
/-! tuple[::-1] -/
namespace LK
open PySem PySem.Spec PyProof.Rows L2 HT
section
variable {prog : Program} {w : World} {A : Around} {E : Value → Shared → Prop} {s : Shared}
theorem places_rev (n : Nat) : Builtin.Slice.slicePlaces ((n : Int) - 1) (-1) (-1) = n := by
  unfold Builtin.Slice.slicePlaces
  have h1 : ¬ ((-1 : Int) > 0) := by omega
  simp only [h1, if_false]
  by_cases h : (n : Int) - 1 > -1
  · simp only [h, if_true]
    have : ((n : Int) - 1 - -1 - 1) / (- -1) = (n : Int) - 1 := by
      rw [show (- -1 : Int) = 1 by decide, Int.ediv_one]
      omega
    omega
  · simp only [h, if_false]
    omega
theorem sliceApplied_rev {sl : Addr} {vs : Value} {n : Nat} {Q : Int × Int × Nat → Shared → Prop} (hs : s.heap.IsSliceOf sl .none .none vs) (ps : IsPart vs (some (-1)))
    (h : Q ((n : Int) - 1, -1, n) s) : wpAny (model prog w) A (Builtin.Slice.sliceApplied (.ref sl) (pure (n : Int))) Q E s := by
  obtain ⟨os, hos, hcs, hds⟩ := id hs
  unfold Builtin.Slice.sliceApplied Builtin.Slice.sliceFields
  refine wpAny_bind (wpAny_bind (wpAny_field hos hds (x := .none) rfl (wpAny_bind (wpAny_field hos hds (x := .none) rfl (wpAny_bind (wpAny_field hos hds (x := vs) rfl (wpAny_pure ?_)))))))
  refine wpAny_bind (slicePart_ ps ?_)
  show wpAny _ _ (if ((-1 : Int) == 0) = true then _ else _) _ _ s
  rw [if_neg (by decide)]
  refine wpAny_bind (slicePart_none (wpAny_bind (slicePart_none (wpAny_bind (wpAny_pure ?_)))))
  show wpAny _ _ (pure ((n : Int) - 1, (-1 : Int), Builtin.Slice.slicePlaces ((n : Int) - 1) (-1) (-1))) _ _ s
  rw [places_rev]
  exact wpAny_pure h
theorem fm_congr {α β : Type} {f g : α → Option β} : ∀ {l : List α}, (∀ x ∈ l, f x = g x) → l.filterMap f = l.filterMap g
  | [], _ => rfl
  | x :: l, h => by
    rw [List.filterMap_cons, List.filterMap_cons, h x (by simp), fm_congr fun y hy => h y (by simp [hy])]
theorem pick_rev (xs : Array Value) : ((List.range xs.size).filterMap fun (m : Nat) => xs[((xs.size : Int) - 1 + (m : Int) * -1).toNat]?).toArray = xs.toList.reverse.toArray := by
  have e : (List.range xs.size).filterMap (fun (m : Nat) => xs[((xs.size : Int) - 1 + (m : Int) * -1).toNat]?) = ((List.range xs.size).map fun k => xs.size - 1 - k).filterMap (xs[·]?) := by
    rw [List.filterMap_map]
    refine fm_congr fun m hm => ?_
    have := List.mem_range.mp hm
    have e2 : ((xs.size : Int) - 1 + (m : Int) * -1).toNat = xs.size - 1 - m := by omega
    rw [e2]
    rfl
  rw [e, PySem.W.krv_range, List.filterMap_reverse, PySem.W.krv_all]
theorem getItem_tuple_rev {t sl : Addr} {items : Array Value} {vs : Value} {Q : Value → Shared → Prop} (ht : IsTup s.heap t items) (hs : s.heap.IsSliceOf sl .none .none vs) (ps : IsPart vs (some (-1)))
    (h : Q (.ref s.heap.objs.size) { s with heap := s.heap.push { cls := .type "tuple", data := .seq items.toList.reverse.toArray } })
    (hsz : items.size ≤ sizeLine) : wpAny (model prog w) A (getItem (.ref t) (.ref sl)) Q E s := by
  have htake : sizeOk (.seq items.toList.reverse.toArray) := by
    show items.toList.reverse.toArray.size ≤ sizeLine
    rw [List.size_toArray, List.length_reverse, Array.length_toList]
    exact hsz
  obtain ⟨os, hos, hcs, hds⟩ := id hs
  have hTs : s.TypeIs (.ref sl) "slice" := ⟨os, hos, hcs⟩
  unfold getItem
  try with_reducible refine wpAny_holding ?_
  first | refine wpAny_bind (wpAny_pure ?_) | skip
  refine wpAny_bind (wpAny_sequenceKey ht.typeIs (by decide) ?_)
  refine wpAny_bind (wpAny_callSpecial?_slot (name := Str.ofString "__getitem__") ht.typeIs PyProof.Rows.slot_tuple_getitem
    (wpAny_call_entry PyProof.Rows.slot_tuple_getitem ht.typeIs entry_tuple_getitem ?_ (args_tuple_getitem _ _)))
  show wpAny _ _ (Builtin.Tuple.tupleItemsOf (.ref t) >>= _) _ _ s
  refine wpAny_bind (tupleItemsOf_ ht ?_)
  refine wpAny_bind (wpAny_typeOf hTs ?_)
  rw [if_pos (by decide)]
  refine wpAny_bind (sliceApplied_rev hs ps ?_)
  have hno : ¬ ((((items.size : Int) - 1 == 0) && ((-1 : Int) == 1) && (items.size == items.size)) = true) := by
    intro q
    rw [Bool.and_eq_true, Bool.and_eq_true] at q
    exact absurd q.1.2 (by decide)
  show wpAny _ _ (if (((items.size : Int) - 1 == 0) && ((-1 : Int) == 1) && (items.size == items.size)) = true then _ else _) _ _ s
  rw [if_neg hno, pick_rev]
  first
    | exact wpAny_bind (m := Builtin.Tuple.tupleExact _) (wpAny_newObj_type (wpAny_pure ⟨_, rfl, wpAny_pure h⟩) htake)
    | exact wpAny_bind (m := Builtin.Tuple.tupleExact _) (wpAny_newObj_type (wpAny_bind (wpAny_pure (wpAny_pure ⟨_, rfl, wpAny_pure h⟩))) htake)
    | exact wpAny_bind (wpAny_bind (m := Builtin.Tuple.tupleExact _) (wpAny_newObj_type (wpAny_pure (wpAny_pure ⟨_, rfl, wpAny_pure h⟩)) htake))
    | exact wpAny_bind (wpAny_bind (m := Builtin.Tuple.tupleExact _) (wpAny_newObj_type (wpAny_pure ⟨_, rfl, wpAny_pure h⟩) htake))
end
def tRevT (K : PySem.W.Frag) (te : TE) : TE := fun σ H Q => te σ H fun x H1 => ∃ a xs, x = .ref a ∧ SqT K H1 a xs ∧ ∀ p, H1 p = none → Q (.ref p) (upd H1 p (.tup xs.reverse))
theorem pe_revT {X : Cx} (K : PySem.W.Frag) {e : Expr} {te : TE} {k : Nat} {p1 p2 p3 pos : Pos} (he : PE X e te) (hK : X.K = K := by rfl) : PE X (.Subscript e (.Slice none none (some (.UnaryOp .USub (.Constant (.int 1) k p1) p2)) p3) pos) (tRevT K te) := by
  subst hK
  refine ⟨fun pins s σ H Q I h => ?_⟩
  refine Subscript_ (thn (he.run pins s σ H _ I h) fun v s1 ⟨x, H1, I1, r1, q1⟩ => ?_)
  obtain ⟨a, xs, ex, hx, q⟩ := q1
  subst ex
  cases r1
  have hst : PO X (some (.UnaryOp .USub (.Constant (.int 1) k p1) p2)) (tPart (tUn (rU fun i => .int (-i)) (tC (.int 1)))) := po_some (pe_un un_neg pe_int)
  refine wpAny_Slice (thn (po_none.run pins s1 σ H1 (fun o H2 => o = none ∧ H2 = H1) I1 ⟨rfl, rfl⟩) fun vl s2 ⟨l, H2, I2, pl, el, e2⟩ => ?_)
  subst el e2
  refine thn (po_none.run pins s2 σ H2 (fun o H3 => o = none ∧ H3 = H2) I2 ⟨rfl, rfl⟩) fun vu s3 ⟨u, H3, I3, pu, eu, e3⟩ => ?_
  subst eu e3
  refine thn (hst.run pins s3 σ H3 (fun o H4 => o = some (-1) ∧ H4 = H3) I3 ⟨1, rfl, -1, rfl, rfl, rfl⟩) fun vs s4 ⟨o, H4, I4, ps, eo, e4⟩ => ?_
  subst eo e4
  cases pl
  cases pu
  have I5 : Inv X pins σ H4 { s4 with heap := s4.heap.push { cls := .type "slice", data := .fields #[.none, .none, vs] } } := I4.kept (t' := s4.toks) fun b ob q => Heap.get?_push_of_some _ q
  obtain ⟨its, r, ht, hz⟩ := I5.tuple hx
  have hlen := r.length
  show wpAny (model X.prog X.w) X.A (subscriptTail e (.Slice none none (some (.UnaryOp .USub (.Constant (.int 1) k p1) p2)) p3) (.ref a) (.ref s4.heap.objs.size)) (EP X pins σ Q) X.xe { s4 with heap := s4.heap.push { cls := .type "slice", data := .fields #[.none, .none, vs] } }
  refine tail_any (ops := [.ref a, .ref s4.heap.objs.size]) ht.typeIs (PyProof.Rows.slot_tuple_getitem.lookup) ?_ (by with_unfolding_all rfl)
  refine getItem_tuple_rev ht (Heap.IsSliceOf.new _ .none .none vs) ps ?_ (by rw [List.size_toArray]; omega)
  refine ⟨.ref _, _, I5.laid (t' := s4.toks) (o := .tup xs.reverse) (fun b ob q => Heap.get?_push_of_some _ q) (Nat.le_refl _) ?_, rfl, q _ (I5.hok.fresh (Nat.le_refl _))⟩
  exact ⟨by rw [List.length_reverse]; exact hz, _, r.reverse, IsTup.new _ _⟩
end LK
/-! what lays data of which only a property is told -/
namespace LK
open PySem PySem.Spec PyProof.Rows L2
theorem inD {X : Cx} (K : PySem.W.Frag) (hu : X.A.units + 65 < cLine) (hK : X.K = K := by rfl) : OpR X (compareOp .In) (rInD K) := hK ▸ op_inD hu
def YldP (K : PySem.W.Frag) (S p : Addr) (H0 : Hp) (σ : L2.St) (t : TE) (G : PyData → Prop) : Prop := ∀ H (Q : VK), Mv S p H0 H → (∀ v d H', G d → Mv S p H H' → Rp K (hide S H') v d → Q v H') → t σ H Q
def YldQ (K : PySem.W.Frag) (S p : Addr) (H0 : Hp) (σ : L2.St) (t : TA) (m : Nat) : Prop := ∀ H Q, Mv S p H0 H → (∀ vs ds H', ds.length = m → Mv S p H H' → RpAll K (hide S H') vs ds → Q vs H') → t σ H Q
def TupLe (m : Nat) (d : PyData) : Prop := ∃ ds, d = .tuple ds ∧ ds.length ≤ m
def LstEq (m : Nat) (d : PyData) : Prop := ∃ ds, d = .list ds ∧ ds.length = m
def AnyD (_ : PyData) : Prop := True
def PartOk (tl : TO) (σ : L2.St) : Prop := ∀ H R, (∀ o, R o H) → tl σ H R
theorem RpAll.reverse {K : PySem.W.Frag} {H : Hp} : ∀ {ds : List PyData} {vs : List V}, RpAll K H vs ds → RpAll K H vs.reverse ds.reverse
  | [], _, .nil => .nil
  | d :: ds, _, .cons a b => by
    rw [List.reverse_cons, List.reverse_cons]
    exact (RpAll.reverse b).app (.one a)
theorem rpTake {K : PySem.W.Frag} {H : Hp} : ∀ (n : Nat) {ds : List PyData} {vs : List V}, RpAll K H vs ds → RpAll K H (vs.take n) (ds.take n)
  | 0, _, _, _ => .nil
  | n + 1, [], _, .nil => .nil
  | n + 1, d :: ds, _, .cons a b => .cons a (rpTake n b)
theorem rpDrop {K : PySem.W.Frag} {H : Hp} : ∀ (n : Nat) {ds : List PyData} {vs : List V}, RpAll K H vs ds → RpAll K H (vs.drop n) (ds.drop n)
  | 0, _, _, r => r
  | n + 1, [], _, .nil => .nil
  | n + 1, d :: ds, _, .cons a b => rpDrop n b
theorem RpAll.cut {K : PySem.W.Frag} {H : Hp} {ds : List PyData} {vs : List V} (r : RpAll K H vs ds) (lo hi : Option Int) : ∃ es, RpAll K H (cutV vs lo hi) es ∧ es.length ≤ ds.length := by
  have := r.length
  refine ⟨_, rpTake _ (rpDrop _ r), ?_⟩
  rw [List.length_take, List.length_drop]
  omega
section
variable {K : PySem.W.Frag} {S p : Addr} {H0 : Hp} {σ : L2.St} {t ta tb : TE} {tt : TA} {tl th : TO} {d e : PyData} {ds : List PyData} {G G' : PyData → Prop} {m a b : Nat}
theorem YldP.mono (y : YldP K S p H0 σ t G) (h : ∀ d, G d → G' d) : YldP K S p H0 σ t G' := fun H Q mv k => y H Q mv fun v d H' g => k v d H' (h d g)
theorem p_any (y : YldP K S p H0 σ t G) : YldP K S p H0 σ t AnyD := y.mono fun _ _ => trivial
theorem p_of (y : Yld K S p H0 σ t d) (g : G d) : YldP K S p H0 σ t G := fun H Q mv k => y H Q mv fun v H' => k v d H' g
theorem p_ofA (y : Yld K S p H0 σ t d) : YldP K S p H0 σ t AnyD := p_of y trivial
theorem p_var {i : Nat} {v : V} (h : σ[i]? = some (some v)) (r : Rp K (hide S H0) v d) (g : G d) : YldP K S p H0 σ (tVar i) G := p_of (y_var h r) g
theorem q_nil : YldQ K S p H0 σ tNil 0 := fun H Q mv k => k _ [] _ rfl (Mv.refl mv.ok) .nil
theorem q_cons (y : YldP K S p H0 σ t G) (ys : YldQ K S p H0 σ tt m) : YldQ K S p H0 σ (tCons t tt) (m + 1) := fun H Q mv k =>
  y H _ mv fun v d H' _ m' r => ys H' _ (mv.trans m') fun vs ds H2 hl m2 r2 => k _ (d :: ds) _ (by rw [List.length_cons, hl]) (m'.trans m2) (.cons (m2.rp r) r2)
theorem p_tup (y : YldQ K S p H0 σ tt m) (hz : m ≤ 1000 := by decide) : YldP K S p H0 σ (tTup tt) (TupLe m) := fun H Q mv k =>
  y H _ mv fun vs ds H' e m' r => by
    have hl : vs.length ≤ 1000 := by rw [r.length]; omega
    refine ⟨le_line hl, fun q hq => ?_⟩
    exact k _ _ _ ⟨ds, rfl, Nat.le_of_eq e⟩ (m'.then (same_upd hq)) (rp_tupNew (free_ne m'.ok hq) r hq hl)
theorem p_lst (y : YldQ K S p H0 σ tt m) (hz : m ≤ 1000 := by decide) : YldP K S p H0 σ (tLst tt) (LstEq m) := fun H Q mv k =>
  y H _ mv fun vs ds H' e m' r => by
    have hl : vs.length ≤ 1000 := by rw [r.length]; omega
    refine ⟨le_line hl, fun q hq => ?_⟩
    exact k _ _ _ ⟨ds, rfl, e⟩ (m'.then (same_upd hq)) (rp_lstNew (free_ne m'.ok hq) r hq hl)
theorem p_catL (ya : YldP K S p H0 σ ta (LstEq a)) (yb : YldP K S p H0 σ tb (LstEq b)) (h : a + b ≤ 1000) : YldP K S p H0 σ (tOp (rCatL K) ta tb) (LstEq (a + b)) := fun H Q mv k =>
  ya H _ mv fun v d H' ⟨ds, ed, el⟩ m' r => yb H' _ (mv.trans m') fun v2 d2 H2 ⟨es, ed2, el2⟩ m2 r2 => by
    subst ed ed2
    obtain ⟨a1, xs, rfl, ha, la, ra⟩ := (m2.rp r).lstA
    obtain ⟨b1, ys, rfl, hb, lb, rb⟩ := r2.lstA
    have e1 := ra.length
    have e2 := rb.length
    refine ⟨a1, b1, xs, ys, rfl, rfl, (hide_same _ _).seq ha, (hide_same _ _).seq hb, by omega, fun q hq => ?_⟩
    exact k _ _ _ ⟨ds ++ es, rfl, by rw [List.length_append]; omega⟩ ((m'.trans m2).then (same_upd hq)) (rp_lstNew (free_ne m2.ok hq) (ra.app rb) hq (by rw [List.length_append]; omega))
theorem p_catT (ya : YldP K S p H0 σ ta (TupLe a)) (yb : YldP K S p H0 σ tb (TupLe b)) (h : a + b ≤ 1000) : YldP K S p H0 σ (tOp (rCatA K) ta tb) (TupLe (a + b)) := fun H Q mv k =>
  ya H _ mv fun v d H' ⟨ds, ed, el⟩ m' r => yb H' _ (mv.trans m') fun v2 d2 H2 ⟨es, ed2, el2⟩ m2 r2 => by
    subst ed ed2
    obtain ⟨a1, xs, rfl, ha, la, ra⟩ := (m2.rp r).tupA
    obtain ⟨b1, ys, rfl, hb, lb, rb⟩ := r2.tupA
    have e1 := ra.length
    have e2 := rb.length
    refine catA_use (seqT (hide_same _ _) ha) (seqT (hide_same _ _) hb) (by omega) fun q H3 s3 hq => ?_
    have m3 := (m'.trans m2).then s3
    obtain ⟨zs3, hS3⟩ := m3.ok.atS
    exact k _ _ _ ⟨ds ++ es, rfl, by rw [List.length_append]; omega⟩ m3 (.tup (seqT_hide hS3 hq) (by rw [List.length_append]; omega) ((ra.app rb).same (hide_mono s3)))
theorem p_revT (y : YldP K S p H0 σ t (TupLe m)) : YldP K S p H0 σ (tRevT K t) (TupLe m) := fun H Q mv k =>
  y H _ mv fun v d H' ⟨ds, ed, el⟩ m' r => by
    subst ed
    obtain ⟨a1, xs, rfl, ha, la, ra⟩ := r.tupA
    refine ⟨a1, xs, rfl, seqT (hide_same _ _) ha, fun q hq => ?_⟩
    exact k _ _ _ ⟨ds.reverse, rfl, by rw [List.length_reverse]; exact el⟩ (m'.then (same_upd hq)) (rp_tupNew (free_ne m'.ok hq) ra.reverse hq (by rw [List.length_reverse]; exact la))
theorem p_listOf (y : YldP K S p H0 σ t (TupLe m)) : YldP K S p H0 σ (tCB (rLstOf K) (tCons t tNil)) AnyD := fun H Q mv k =>
  y H _ mv fun v d H' ⟨ds, ed, el⟩ m' r => by
    subst ed
    obtain ⟨a1, xs, rfl, ha, la, ra⟩ := r.tupA
    refine ⟨a1, xs, rfl, .inr (seqT (hide_same _ _) ha), fun q hq => ?_⟩
    exact k _ _ _ trivial (m'.then (same_upd hq)) (rp_lstNew (free_ne m'.ok hq) ra hq la)
theorem part_no : PartOk tNoPart σ := fun H R h => h none
theorem part_int {i : Int} : PartOk (tPart (tC (.int i))) σ := fun H R h => ⟨i, rfl, h (some i)⟩
theorem part_neg {i : Int} : PartOk (tPart (tUn (rU fun i => .int (-i)) (tC (.int i)))) σ := fun H R h => ⟨i, rfl, -i, rfl, h (some (-i))⟩
theorem p_sl (y : YldP K S p H0 σ t (TupLe m)) (hl : PartOk tl σ) (hh : PartOk th σ) : YldP K S p H0 σ (tSl (rSlA K) t tl th) (TupLe m) := fun H Q mv k =>
  y H _ mv fun v d H' ⟨ds, ed, el⟩ m' r => hl _ _ fun lo => hh _ _ fun hi => by
    subst ed
    obtain ⟨a1, xs, rfl, ha, la, ra⟩ := r.tupA
    refine slA_use (seqT (hide_same _ _) ha) fun q H3 s3 hq => ?_
    have m3 := m'.then s3
    obtain ⟨zs3, hS3⟩ := m3.ok.atS
    obtain ⟨es, re, le⟩ := ra.cut lo hi
    have := cutV_length xs lo hi
    exact k _ _ _ ⟨es, rfl, by omega⟩ m3 (.tup (seqT_hide hS3 hq) (by omega) (re.same (hide_mono s3)))
theorem p_useL {Q : VK} {H : Hp} (y : YldP K S p H σ (tLst tt) G) (st : StOk H S p) (k : ∀ v d H', G d → Mv S p H H' → Rp K (hide S H') v d → Q v H') : tLst tt σ H Q := y H Q (Mv.refl st) k
theorem p_useO {r : R2} {Q : VK} {H : Hp} (y : YldP K S p H σ (tOp r ta tb) G) (st : StOk H S p) (k : ∀ v d H', G d → Mv S p H H' → Rp K (hide S H') v d → Q v H') : tOp r ta tb σ H Q := y H Q (Mv.refl st) k
end
end LK
/-! tuples that are known to have no dict, so that they have .index -/
namespace LK
open PySem PySem.Spec PyProof.Rows L2
/-- a tuple with no dict -/
def TN (K : PySem.W.Frag) (H : Hp) (a : Addr) (xs : List V) : Prop := SqT K H a xs ∧ DN H (.ref a)
theorem TN.same {K : PySem.W.Frag} {H H' : Hp} {a : Addr} {xs : List V} (h : TN K H a xs) (s : Same H H') : TN K H' a xs := ⟨seqT s h.1, h.2.same s⟩
theorem tn_new {K : PySem.W.Frag} {H : Hp} {p : Addr} {o : Obj} {xs : List V} (e : o.dict = none) : TN K (upd H p (.frz o (.tup xs))) p xs :=
  ⟨.inl (.inr ⟨o, upd_same⟩), fun a ea => by cases ea; exact ⟨o, _, upd_same, e⟩⟩
section
variable {X : Cx}
/-- a new tuple laid, frozen -/
theorem frz_laid {K : PySem.W.Frag} (hK : X.K = K) {pins : List (Addr × Obj)} {σ : L2.St} {H : Hp} {s : Shared} {Q : VK} {h' : Heap} {t' : Nat} {p : Addr} {its : List Value} {xs : List V} (I : Inv X pins σ H s) (k : ∀ b u, s.heap.get? b = some u → h'.get? b = some u) (hp : s.heap.objs.size ≤ p)
    (g : h'.get? p = some { cls := .type "tuple", data := .seq its.toArray }) (r : Vals xs its) (hz : xs.length ≤ sizeLine) (q : ∀ p H', Same H H' → H p = none → TN K H' p xs → Q (.ref p) H') :
    EP X pins σ Q (.ref p) { s with heap := h', toks := t' } := by
  refine ⟨.ref p, _, I.laid (t' := t') (o := .frz { cls := .type "tuple", data := .seq its.toArray } (.tup xs)) k hp ?_, rfl, q _ _ (same_upd (I.hok.fresh hp)) (I.hok.fresh hp) (tn_new rfl)⟩
  exact ⟨g, hz, its, r, _, g, rfl, _, rfl⟩
def tTupN (K : PySem.W.Frag) (t : TA) : TE := fun σ H Q => t σ H fun xs H1 => xs.length ≤ sizeLine ∧ ∀ p H', Same H1 H' → H1 p = none → TN K H' p xs → Q (.ref p) H'
theorem pe_tupN (K : PySem.W.Frag) {es : List Expr} {t : TA} {pos : Pos} {x1} (h : PA X es t) (hK : X.K = K := by rfl) : PE X (.Tuple es x1 pos) (tTupN K t) := by
  refine ⟨fun pins s σ H Q I hq => ?_⟩
  refine wpAny_Tuple_spliced (thn (h.run pos pins s σ H _ I hq) fun us s1 ⟨xs, H1, I1, r, z, q⟩ => ⟨by rw [← r.length]; exact z, ?_⟩)
  exact frz_laid hK (t' := s1.toks) I1 (fun b u e => Heap.get?_push_of_some _ e) (Nat.le_refl _) (Heap.get?_push_size _ rfl) r z q
def tTupRgN (K : PySem.W.Frag) (te : L2.St → Hp → (Int → Int → Hp → Prop) → Prop) : TE := fun σ H Q => te σ H fun a b H1 => RgOk a b ∧ ∀ p H', Same H1 H' → H1 p = none → TN K H' p (rgV a b) → Q (.ref p) H'
theorem pe_tupRgN (K : PySem.W.Frag) {e : Expr} {te : L2.St → Hp → (Int → Int → Hp → Prop) → Prop} {p pos : Pos} (hc : X.calm = true) (hg : Gl X "tuple") (hm : X.mg "tuple" = none) (he : PRg X e te) (hK : X.K = K := by rfl) (na : starEach [e] X.env = (false, eval e X.env) :: starEach [] X.env := by rfl) : PE X (.Call (.Name "tuple" p) [e] [] pos) (tTupRgN K te) := by
  refine ⟨fun pins s σ H Q I h => ?_⟩
  refine Call_ (ld_blt I hg hm boot_tuple (PyProof.Rows.callWith_type1 (args_cons (thn (he pins s σ H _ I h) fun x s1 ⟨r, a, b, t, u, v, H1, ex, hr, I1, ok, q⟩ => args_nil ?_) na) na))
  subst ex
  obtain ⟨b1, b2, b3, b4, b5⟩ := ok
  refine call_tuple_range (n := (b - a).toNat) (I1.ok.hd hc) hr (small_one b1 b2 b3 b4) (rangeSize_nat a b) b5 fun h' tk acc hk hi => ?_
  have I2 : Inv X pins σ H1 { s1 with heap := h', toks := tk } := I1.kept hk
  exact frz_laid hK (s := { s1 with heap := h', toks := tk }) (h' := h'.push { cls := .type "tuple", data := .seq acc }) (t' := tk) (its := acc.toList) I2 (fun c o e => Heap.get?_push_of_some _ e) (Nat.le_refl _) (by rw [Array.toArray_toList]; exact Heap.get?_push_size _ rfl) (vals_rg hi) (by rw [rgV_length, sizeLine_eq]; omega) q
def rCatN (K : PySem.W.Frag) : R2 := fun x y H Q => ∃ a b xs ys, x = .ref a ∧ y = .ref b ∧ TN K H a xs ∧ TN K H b ys ∧ xs.length + ys.length ≤ 2000 ∧ ∀ p H', Same H H' → TN K H' p (xs ++ ys) → Q (.ref p) H'
theorem catN (K : PySem.W.Frag) (hK : X.K = K := by rfl) : OpR X (binaryOp .Add) (rCatN K) := by
  subst hK
  intro pins s σ H x y v u Q I rx ry h
  obtain ⟨a, b, xs, ys, rfl, rfl, ha, hb, hz, q⟩ := h
  have hs : (2000 : Nat) ≤ sizeLine := by decide
  by_cases hx : xs = []
  · subst hx
    cases rx
    cases ry
    obtain ⟨its, r1, p1, _⟩ := I.tuple ha.1
    obtain ⟨its2, r2, p2, _⟩ := I.tuple hb.1
    cases r1
    exact cat_tup0 p1 p2 ⟨.ref b, H, I, rfl, q b H (Same.refl _) hb⟩
  · cases rx
    cases ry
    obtain ⟨its, r1, p1, _⟩ := I.tuple ha.1
    obtain ⟨its2, r2, p2, _⟩ := I.tuple hb.1
    refine HT.cat_tup p1 p2 (fun z => hx (r1.nil_iff.mp z)) (fun z => ⟨.ref a, H, I, rfl, ?_⟩) (fun z => ?_) (by rw [← r1.length, ← r2.length]; omega)
    · have : ys = [] := r2.nil_iff.mp z
      subst this
      exact q a H (Same.refl _) (by rw [List.append_nil]; exact ha)
    · exact frz_laid rfl (t' := s.toks) I (fun b ob q => Heap.get?_push_of_some _ q) (Nat.le_refl _) (Heap.get?_push_size _ rfl) (r1.append r2) (by rw [List.length_append]; omega) fun p H' s' _ t => q p H' s' t
def rSlN (K : PySem.W.Frag) : V → Option Int → Option Int → Hp → VK → Prop := fun x lo hi H Q => ∃ a xs, x = .ref a ∧ TN K H a xs ∧ ∀ p H', Same H H' → TN K H' p (cutV xs lo hi) → Q (.ref p) H'
theorem slN (K : PySem.W.Frag) (hK : X.K = K := by rfl) : SlR X (rSlN K) := by
  subst hK
  intro pins s σ H x v vl vu lo hi sl Q I rx hs pl pu h
  obtain ⟨a, xs, rfl, hx, q⟩ := h
  cases rx
  obtain ⟨its, r, ht, hz⟩ := I.tuple hx.1
  have hlen : its.toArray.size = xs.length := by rw [List.size_toArray]; exact r.length.symm
  refine ⟨"tuple", _, PyProof.Rows.slot_tuple_getitem.lookup, ht.typeIs, ?_⟩
  by_cases hw : HT.sIx xs.length 0 lo = 0 ∧ HT.sIx xs.length xs.length hi = xs.length
  · refine getItem_tuple_whole ht hs pl pu (by rw [hlen]; exact hw) ⟨.ref a, H, I, rfl, q a H (Same.refl _) ?_⟩
    have : cutV xs lo hi = xs := by
      unfold cutV
      rw [hw.1, hw.2]
      simp
    rw [this]
    exact hx
  · refine HT.getItem_tuple_cut ht hs pl pu (by rw [hlen]; exact hw) ?_ (by rw [hlen]; exact hz)
    rw [hlen]
    exact frz_laid rfl (t' := s.toks) I (fun b ob q => Heap.get?_push_of_some _ q) (Nat.le_refl _) (Heap.get?_push_size _ rfl) ((r.drop (HT.sIx xs.length 0 lo)).take (HT.sIx xs.length xs.length hi - HT.sIx xs.length 0 lo)) (Nat.le_trans (cutV_length xs lo hi) hz) fun p H' s' _ t => q p H' s' t
end
end LK
namespace LK
open PySem PySem.Spec PyProof.Rows L2
def tRevN (K : PySem.W.Frag) (te : TE) : TE := fun σ H Q => te σ H fun x H1 => ∃ a xs, x = .ref a ∧ SqT K H1 a xs ∧ ∀ p H', Same H1 H' → H1 p = none → TN K H' p xs.reverse → Q (.ref p) H'
theorem pe_revN {X : Cx} (K : PySem.W.Frag) {e : Expr} {te : TE} {k : Nat} {p1 p2 p3 pos : Pos} (he : PE X e te) (hK : X.K = K := by rfl) : PE X (.Subscript e (.Slice none none (some (.UnaryOp .USub (.Constant (.int 1) k p1) p2)) p3) pos) (tRevN K te) := by
  subst hK
  refine ⟨fun pins s σ H Q I h => ?_⟩
  refine Subscript_ (thn (he.run pins s σ H _ I h) fun v s1 ⟨x, H1, I1, r1, q1⟩ => ?_)
  obtain ⟨a, xs, ex, hx, q⟩ := q1
  subst ex
  cases r1
  have hst : PO X (some (.UnaryOp .USub (.Constant (.int 1) k p1) p2)) (tPart (tUn (rU fun i => .int (-i)) (tC (.int 1)))) := po_some (pe_un un_neg pe_int)
  refine wpAny_Slice (thn (po_none.run pins s1 σ H1 (fun o H2 => o = none ∧ H2 = H1) I1 ⟨rfl, rfl⟩) fun vl s2 ⟨l, H2, I2, pl, el, e2⟩ => ?_)
  subst el e2
  refine thn (po_none.run pins s2 σ H2 (fun o H3 => o = none ∧ H3 = H2) I2 ⟨rfl, rfl⟩) fun vu s3 ⟨u, H3, I3, pu, eu, e3⟩ => ?_
  subst eu e3
  refine thn (hst.run pins s3 σ H3 (fun o H4 => o = some (-1) ∧ H4 = H3) I3 ⟨1, rfl, -1, rfl, rfl, rfl⟩) fun vs s4 ⟨o, H4, I4, ps, eo, e4⟩ => ?_
  subst eo e4
  cases pl
  cases pu
  have I5 : Inv X pins σ H4 { s4 with heap := s4.heap.push { cls := .type "slice", data := .fields #[.none, .none, vs] } } := I4.kept (t' := s4.toks) fun b ob q => Heap.get?_push_of_some _ q
  obtain ⟨its, r, ht, hz⟩ := I5.tuple hx
  have hlen := r.length
  show wpAny (model X.prog X.w) X.A (subscriptTail e (.Slice none none (some (.UnaryOp .USub (.Constant (.int 1) k p1) p2)) p3) (.ref a) (.ref s4.heap.objs.size)) (EP X pins σ Q) X.xe { s4 with heap := s4.heap.push { cls := .type "slice", data := .fields #[.none, .none, vs] } }
  refine tail_any (ops := [.ref a, .ref s4.heap.objs.size]) ht.typeIs (PyProof.Rows.slot_tuple_getitem.lookup) ?_ (by with_unfolding_all rfl)
  refine getItem_tuple_rev ht (Heap.IsSliceOf.new _ .none .none vs) ps ?_ (by rw [List.size_toArray]; omega)
  exact frz_laid rfl (t' := s4.toks) I5 (fun b ob q => Heap.get?_push_of_some _ q) (Nat.le_refl _) (Heap.get?_push_size _ rfl) r.reverse (by rw [List.length_reverse]; exact hz) q
def rIxS (K : PySem.W.Frag) : R2 := fun x y H Q => rIxL K x y H Q ∨ rIxT K x y H Q
theorem ixS {X : Cx} (K : PySem.W.Frag) (hK : X.K = K := by rfl) : IxR X (rIxS K) := hK ▸ ix_list.or ix_tup
def rSrtS (K : PySem.W.Frag) : List V → Hp → VK → Prop := fun vs H Q => rSrtA K vs H Q ∨ rSortedI K vs H Q
theorem srtS {X : Cx} (K : PySem.W.Frag) (hK : X.K = K := by rfl) : CallR X (.builtin "sorted") (rSrtS K) := CallR.or (srtT K hK) (srtI K hK)
theorem maxR {X : Cx} (K : PySem.W.Frag) (hc : X.calm = true := by rfl) (hK : X.K = K := by rfl) : CallR X (.builtin "max") (rMax K) := hK ▸ cr_max hc
/-- what the law hands on: a tuple of ints with .index -/
def TI (K : PySem.W.Frag) (H : Hp) (a : Addr) (ns : List Int) : Prop := TN K H a (ns.map V.int) ∧ ns.length ≤ 1000
theorem TI.same {K : PySem.W.Frag} {H H' : Hp} {a : Addr} {ns : List Int} (h : TI K H a ns) (s : Same H H') : TI K H' a ns := ⟨h.1.same s, h.2⟩
theorem TI.rp {K : PySem.W.Frag} {H : Hp} {a : Addr} {ns : List Int} (h : TI K H a ns) : Rp K H (.ref a) (dTup ns) := TupI.rp ⟨h.1.1, h.2⟩
theorem TN.hide {K : PySem.W.Frag} {H : Hp} {S p a : Addr} {xs : List V} (st : StOk H S p) (h : TN K H a xs) : TN K (hide S H) a xs := by
  obtain ⟨zs, e⟩ := st.atS
  refine ⟨seqT_hide e h.1, fun b eb => ?_⟩
  obtain ⟨o, u, h1, h2⟩ := h.2 b eb
  refine ⟨o, u, ?_, h2⟩
  rw [hide_ne]
  · exact h1
  · intro z
    rw [z, e] at h1
    cases h1
theorem TI.hide {K : PySem.W.Frag} {H : Hp} {S p a : Addr} {ns : List Int} (st : StOk H S p) (h : TI K H a ns) : TI K (hide S H) a ns := ⟨h.1.hide st, h.2⟩
theorem TI.show {K : PySem.W.Frag} {H : Hp} {S a : Addr} {ns : List Int} (h : TI K (LK.hide S H) a ns) : TI K H a ns := h.same (hide_same S H)
theorem TN.show {K : PySem.W.Frag} {H : Hp} {S a : Addr} {ns : List V} (h : TN K (LK.hide S H) a ns) : TN K H a ns := h.same (hide_same S H)
theorem Mv.ti {K : PySem.W.Frag} {S p a : Addr} {H H' : Hp} {ns : List Int} (m : Mv S p H H') (h : TI K (LK.hide S H) a ns) : TI K (LK.hide S H') a ns := h.same m.same
end LK
namespace LK
open PySem PySem.Spec PyProof.Rows L2
def spDraw : Sp := fun vs H Q _ => ∃ (S p : Addr) (many : Int), vs = [.ref S, .int many] ∧ StOk H S p ∧ 0 < many ∧ many ≤ 1000 ∧ ∀ r H', 0 ≤ r → r < many → Mv S p H H' → Q (.int r) H'
section
variable {P : Program} {w : World} {K : PySem.W.Frag} {mg : Str → Option Value} {base : Heap} {ad : Nat → Addr} {fd : Nat → FuncData}
theorem ok__law_draw (T : Txt K mg ad fd) : FnOk P w K mg base CX0 1 (ad 70) (fd 70) ["_law_tape_here", "_law_many"] spDraw := by
  refine T.F__law_draw.ok sc__law_draw (fun vs H Q E h => ?_) (fun cdv A outer s H vs Q E hr h => ?_)
  · obtain ⟨S, p, many, rfl, _⟩ := h
    rfl
  · obtain ⟨S, p, many, rfl, st, h0, h1, k⟩ := h
    refine ⟨_, (pss_cons (ps_if (pt_cmpR op_gt (pe_ix (ixL K) (pv 0) pe_int (fun _ _ => rfl)) pe_int (nomark _)) (pss_cons (ps_set (i := 3) sc__law_draw.nd rfl (Or.inl rfl) (pe_op op_mod (pe_callTy call_int1 (by rfl) T.g_int (by decide +kernel) (pa_cons (pe_ix (ixL K) (pv 0) pe_int (fun _ _ => rfl)) pa_nil)) (pv 1)))
  (pss_cons (ps_asg (pe_op op_fdiv (pe_ix (ixL K) (pv 0) pe_int (fun _ _ => rfl)) (pv 1)) (pg_sub (pv 0) pe_int set_list))
  (pss_one (ps_ret (pv 3)))))
  pss_nil)
  (pss_cons (ps_asg (pe_op op_mod (pe_callTy call_int1 (by rfl) T.g_int (by decide +kernel) (pa_cons (pe_op op_add (pe_op op_mul (pe_ix (ixL K) (pv 0) pe_int (fun _ _ => rfl)) pe_int) pe_int) pa_nil)) pe_int) (pg_sub (pv 0) pe_int set_list))
  (pss_cons (ps_set (i := 2) sc__law_draw.nd rfl (Or.inl rfl) (pe_op op_mul (pe_callTy call_int1 (by rfl) T.g_int (by decide +kernel) (pa_cons (pe_op op_add (pe_op op_mod (pe_ix (ixL K) (pv 0) pe_int (fun _ _ => rfl)) pe_int) pe_int) pa_nil)) (pe_callTy call_int1 (by rfl) T.g_int (by decide +kernel) (pa_cons (pe_op op_add (pe_op op_fdiv (pe_ix (ixL K) (pv 0) pe_int (fun _ _ => rfl)) pe_int) pe_int) pa_nil))))
  (pss_one (ps_ret (pe_op op_mod (pe_callTy call_int1 (by rfl) T.g_int (by decide +kernel) (pa_cons (pe_op op_fdiv (pe_op op_mod (pv 2) pe_int) pe_int) pa_nil)) (pv 1))))))), ?_⟩
    obtain ⟨big, mix, e1, e4, e5⟩ := st.ex
    refine ⟨_, rfl, S, _, _, _, rfl, rfl, SqL.of e1, rfl, _, _, rfl, rfl, _, rfl, ?_⟩
    by_cases c : 0 < big
    · rw [decide_eq_true c]
      refine iteT ⟨_, rfl, S, _, _, _, rfl, rfl, SqL.of e1, rfl, .inl ⟨_, rfl, _, rfl, _, _, rfl, rfl, h0, ?_⟩⟩
      refine ⟨_, rfl, S, _, _, _, rfl, rfl, SqL.of e1, rfl, _, rfl, _, _, rfl, rfl, ⟨h0, by omega⟩, _, rfl, S, _, 0, 0, rfl, rfl, e1, rfl, ?_⟩
      refine ⟨_, rfl, k _ _ (Int.emod_nonneg _ (by omega)) (Int.emod_lt_of_pos _ h0) ⟨by rw [hide_upd_self]; exact Same.refl _, ⟨big / many, mix, upd_same, e4, e5⟩⟩⟩
    · rw [decide_eq_false c]
      refine iteF ⟨_, rfl, S, _, _, _, rfl, rfl, SqL.of e1, rfl, _, _, rfl, rfl, .inr ⟨by decide, by decide⟩, _, _, rfl, rfl, .inl ⟨_, rfl, _, _, rfl, rfl, (by show (0 : Int) < 2147483123; decide), _, rfl, S, _, 1, 1, rfl, rfl, e1, rfl, ?_⟩⟩
      have e1' : ∀ m, (upd H S (.lst ([V.int big, .int mix].set 1 m))) S = some (.lst [V.int big, m]) := fun m => upd_same
      have m0 : 0 ≤ (mix * 62089 + 5003) % 2147483123 := Int.emod_nonneg _ (by decide)
      have m1 : (mix * 62089 + 5003) % 2147483123 < 2147483123 := Int.emod_lt_of_pos _ (by decide)
      have st2 : StOk (upd H S (.lst ([V.int big, .int mix].set 1 (.int ((mix * 62089 + 5003) % 2147483123))))) S p := ⟨big, _, e1' _, m0, m1⟩
      have hmv : Mv S p H (upd H S (.lst ([V.int big, .int mix].set 1 (.int ((mix * 62089 + 5003) % 2147483123))))) := ⟨by rw [hide_upd_self]; exact Same.refl _, st2⟩
      refine ⟨_, rfl, S, _, _, _, rfl, rfl, SqL.of (e1' _), rfl, _, _, rfl, rfl, (by show (0 : Int) < 39733; decide), _, _, rfl, rfl, .inl ⟨_, rfl, _, rfl, S, _, _, _, rfl, rfl, SqL.of (e1' _), rfl, _, _, rfl, rfl, ⟨by decide, by decide⟩, _, _, rfl, rfl, .inl ⟨_, rfl, _, _, rfl, rfl, .inl ⟨?_, ?_⟩, ?_⟩⟩⟩
      · have := Int.emod_nonneg ((mix * 62089 + 5003) % 2147483123) (b := 39733) (by decide)
        show -(2 ^ 64) < (mix * 62089 + 5003) % 2147483123 % 39733 + 31
        omega
      · have := Int.emod_lt_of_pos ((mix * 62089 + 5003) % 2147483123) (b := 39733) (by decide)
        show (mix * 62089 + 5003) % 2147483123 % 39733 + 31 < 2 ^ 64
        omega
      · refine ⟨_, rfl, _, _, rfl, rfl, (by show (0 : Int) < 433494437; decide), _, _, rfl, rfl, ⟨by decide, by decide⟩, .inl ⟨_, rfl, _, rfl, _, _, rfl, rfl, h0, ?_⟩⟩
        exact k _ _ (Int.emod_nonneg _ (by omega)) (Int.emod_lt_of_pos _ h0) hmv
end
end LK
namespace LK
open PySem PySem.Spec PyProof.Rows L2
def rgI (n : Nat) : List Int := (List.range n).map fun i : Nat => (i : Int)
theorem rgI_length (n : Nat) : (rgI n).length = n := by unfold rgI; rw [List.length_map, List.length_range]
theorem rgI_succ (n : Nat) : rgI (n + 1) = rgI n ++ [(n : Int)] := by unfold rgI; rw [List.range_succ, List.map_append]; rfl
theorem rgI_mem {n : Nat} {x : Int} : x ∈ rgI n ↔ 0 ≤ x ∧ x < n := by
  unfold rgI
  rw [List.mem_map]
  constructor
  · rintro ⟨i, hi, rfl⟩
    have := List.mem_range.mp hi
    omega
  · rintro ⟨h0, h1⟩
    exact ⟨x.toNat, List.mem_range.mpr (by omega), by omega⟩
theorem rgI_nodup (n : Nat) : (rgI n).Nodup := by
  unfold rgI
  exact List.Pairwise.map _ (fun a b (h : a ≠ b) => by omega) List.nodup_range
theorem rgI_pw (n : Nat) : (rgI n).Pairwise (· < ·) := by
  unfold rgI
  exact List.Pairwise.map _ (fun a b (h : a < b) => by omega) List.pairwise_lt_range
theorem rgV_rgI (n : Int) : rgV 0 n = (rgI n.toNat).map V.int := by
  unfold rgV rgI
  rw [List.map_map, Int.sub_zero]
  refine List.map_congr_left fun i _ => ?_
  show V.int (0 + (i : Nat)) = V.int (i : Nat)
  rw [Int.zero_add]
theorem cutI_take {l : List Int} {z : Int} (h0 : 0 ≤ z) (h1 : z ≤ l.length) : cutV (l.map V.int) none (some z) = (l.take z.toNat).map V.int := by
  rw [cut_take h0 (by rw [List.length_map]; exact h1), List.map_take]
theorem cutI_drop {l : List Int} {z : Int} (h0 : 0 ≤ z) (h1 : z ≤ l.length) : cutV (l.map V.int) (some z) none = (l.drop z.toNat).map V.int := by
  rw [cut_drop h0 (by rw [List.length_map]; exact h1), List.map_drop]
def spLine (K : PySem.W.Frag) : Sp := fun vs H Q _ => ∃ (S p : Addr) (n : Int), vs = [.ref S, .int n] ∧ StOk H S p ∧ 0 ≤ n ∧ n ≤ 900 ∧ ∀ a line H', Mv S p H H' → TI K (hide S H') a line → line.Perm (rgI n.toNat) → Q (.ref a) H'
section
variable {P : Program} {w : World} {K : PySem.W.Frag} {mg : Str → Option Value} {base : Heap} {ad : Nat → Addr} {fd : Nat → FuncData}
theorem ok__law_line (T : Txt K mg ad fd) : FnOk P w K mg base CX0 2 (ad 71) (fd 71) ["_law_tape_here", "_law_size"] (spLine K) := by
  refine T.F__law_line.ok sc__law_line (fun vs H Q E h => ?_) (fun cdv A outer s H vs Q E hr h => ?_)
  · obtain ⟨S, p, n, rfl, _⟩ := h
    rfl
  · obtain ⟨S, p, n, rfl, st, h0, h1, k⟩ := h
    refine ⟨_, (pss_cons (ps_set (i := 2) sc__law_line.nd rfl (Or.inl rfl) (pe_tupN K pa_nil))
  (pss_cons (ps_for PassesOwn.never rfl (pi_range1 rfl T.g_range (pa_cons (pv 1) pa_nil)) (pg_name (i := 3) (x := "_law_x") sc__law_line.nd rfl (Or.inl rfl))
  (pss_cons (ps_set (i := 4) sc__law_line.nd rfl (Or.inl rfl) (pe_call (ok__law_draw T) (hr.mono (by decide)) rfl T.m__law_draw T.F__law_draw.kp (b__law_draw T) .nil pass0 (pa_cons (pv 0) (pa_cons (pe_op op_add (pv 3) pe_int) pa_nil))))
  (pss_one (ps_set (i := 2) sc__law_line.nd rfl (Or.inl rfl) (pe_op (catN K) (pe_op (catN K) (pe_slice (slN K) (pv 2) po_none (po_some (pv 4))) (pe_tupN K (pa_cons (pv 3) pa_nil))) (pe_slice (slN K) (pv 2) (po_some (pv 4)) po_none))))))
  (pss_one (ps_ret (pv 2))))), ?_⟩
    refine ⟨(by show 0 ≤ sizeLine; decide), fun a0 H0 s0 n0 t0 => ?_⟩
    have m0 := (Mv.refl st).then s0
    refine ⟨_, rfl, n, rfl, by omega, by omega, for_range (lo := 0) (n := n.toNat) (fun i σ H1 => ∃ (a : Addr) (line : List Int) (v3 v4 : Option V), σ = [some (.ref S), some (.int n), some (.ref a), v3, v4] ∧ Mv S p H H1 ∧ TI K (hide S H1) a line ∧ line.Perm (rgI i))
      ⟨a0, [], none, none, rfl, m0, ⟨t0.hide m0.ok, Nat.zero_le _⟩, .nil⟩ (fun i σ H1 hi ⟨a, line, v3, v4, e1, mv, ta, pm⟩ => ?_) (fun σ H1 ⟨a, line, v3, v4, e1, mv, ta, pm⟩ => ?_)⟩
    · subst e1
      have ll := pm.length_eq
      rw [rgI_length] at ll
      refine ⟨_, rfl, _, rfl, _, _, rfl, rfl, S, p, _, rfl, mv.ok, by omega, by omega, fun r H2 r0 r1 mv2 => ?_⟩
      have ta2 := (mv2.ti ta).show
      have hr1 : r ≤ line.length := by omega
      dsimp only [gName, tSeq, tAsg, tNext]
      refine ⟨_, rfl, ?_⟩
      dsimp only [tNoPart]
      refine ⟨_, rfl, _, rfl, a, _, rfl, ta2.1, fun p1 H3 s3 t3 => ?_⟩
      rw [cutI_take r0 hr1] at t3
      refine ⟨_, rfl, (by show 1 ≤ sizeLine; decide), fun p2 H4 s4 _ t4 => ?_⟩
      refine ⟨p1, p2, _, _, rfl, rfl, t3.same s4, t4, by rw [List.length_map, List.length_take]; show _ + 1 ≤ 2000; omega, fun p3 H5 s5 t5 => ?_⟩
      refine ⟨_, rfl, _, rfl, _, rfl, ?_⟩
      dsimp only [tNoPart]
      refine ⟨a, _, rfl, (ta2.same (s3.trans (s4.trans s5))).1, fun p4 H6 s6 t6 => ?_⟩
      rw [cutI_drop r0 hr1] at t6
      refine ⟨p3, p4, _, _, rfl, rfl, t5.same s6, t6, by simp only [List.length_append, List.length_map, List.length_take, List.length_drop, List.length_cons, List.length_nil]; omega, fun p5 H7 s7 t7 => ?_⟩
      have m7 := (mv.trans mv2).then (s3.trans (s4.trans (s5.trans (s6.trans s7))))
      refine ⟨p5, line.take r.toNat ++ [(i : Int)] ++ line.drop r.toNat, _, _, rfl, m7, ⟨?_, ?_⟩, ?_⟩
      · have e7 : (line.take r.toNat).map V.int ++ [V.int (0 + (i : Nat))] ++ (line.drop r.toNat).map V.int = (line.take r.toNat ++ [(i : Int)] ++ line.drop r.toNat).map V.int := by
          rw [List.map_append, List.map_append, Int.zero_add]
          rfl
        rw [← e7]
        exact t7.hide m7.ok
      · simp only [List.length_append, List.length_take, List.length_drop, List.length_cons, List.length_nil]
        omega
      · rw [rgI_succ]
        have h1 : (line.take r.toNat ++ [(i : Int)] ++ line.drop r.toNat).Perm (line.take r.toNat ++ line.drop r.toNat ++ [(i : Int)]) := by
          rw [List.append_assoc, List.append_assoc]
          exact (List.perm_append_comm).append_left _
        rw [List.take_append_drop] at h1
        exact h1.trans (pm.append_right _)
    · subst e1
      exact ⟨_, rfl, k a line H1 mv ta pm⟩
end
end LK
namespace LK
open PySem PySem.Spec PyProof.Rows L2
def shapesL : List (List (List Int)) := [[[0, 1, 2], [1, 2, 3], [4, 5]], [[0, 1, 2, 3]], [[0, 1], [1, 2], [2, 3], [0, 3]], [[0, 1, 2], [2, 3, 4]], [[0, 1, 2], [1, 2, 3]], [[0, 1, 2]], [[0, 1], [0, 2], [1, 2], [2, 3]], [[0, 1, 2, 3], [1, 2]], [[0, 1]], [], [[0, 1], [1, 2], [2, 3], [3, 4], [0, 4]], [[0, 1, 2, 3], [2, 3, 4, 5]], [[0, 1, 2], [0, 2, 3], [0, 3, 4]], [[0, 1, 2], [3, 4, 5]], [[0, 1, 2, 3, 4, 5]]]
def PartsOk (parts : List (List Int)) : Prop := parts.length ≤ 7 ∧ ∀ r ∈ parts, r.Nodup ∧ 2 ≤ r.length ∧ r.length ≤ 10 ∧ ∀ x ∈ r, 0 ≤ x ∧ x < 10
instance (parts : List (List Int)) : Decidable (PartsOk parts) := by unfold PartsOk; infer_instance
theorem shapes_ok : ∀ ps ∈ shapesL, PartsOk ps := by decide +kernel
def dLists (parts : List (List Int)) : PyData := .list (parts.map dLst)
def spParts (K : PySem.W.Frag) : Sp := fun vs H Q _ => ∃ (S p : Addr), vs = [.ref S] ∧ StOk H S p ∧ ∀ v parts H', Mv S p H H' → Rp K (hide S H') v (dLists parts) → PartsOk parts → Q v H'
/-- a list at D of lists, more are put behind -/
structure Grow (K : PySem.W.Frag) (S p D : Addr) (H H' : Hp) (xs : List V) (parts : List (List Int)) : Prop where
  mv : Mv S p H H'
  at_ : H' D = some (.lst xs)
  rp : RpAll K (hide D (hide S H')) xs (parts.map dLst)
  len : xs.length ≤ 500
theorem Grow.start {K : PySem.W.Frag} {S p D : Addr} {H H1 : Hp} (st : StOk H S p) (m : Mv S p H H1) (n : H1 D = none) : Grow K S p D H (upd H1 D (.lst [])) [] [] :=
  ⟨m.put st (m.free n), upd_same, .nil, Nat.zero_le _⟩
theorem Grow.mvs {K : PySem.W.Frag} {S p D : Addr} {H H1 H2 : Hp} {xs : List V} {parts : List (List Int)} (g : Grow K S p D H H1 xs parts) (hD : H D = none) (st : StOk H S p) (m : Mv S p H1 H2) : Grow K S p D H H2 xs parts := by
  have DS := free_ne st hD
  exact ⟨g.mv.trans m, m.get DS g.at_, g.rp.same (hide_mono m.same), g.len⟩
theorem Grow.push {K : PySem.W.Frag} {S p D l : Addr} {H H1 : Hp} {xs : List V} {parts : List (List Int)} {ns : List Int} (g : Grow K S p D H H1 xs parts) (hD : H D = none) (st : StOk H S p) (lD : l ≠ D) (lS : l ≠ S) (h : H1 l = some (.lst (ns.map V.int))) (hl : ns.length ≤ 1000) (hx : xs.length < 500) :
    Grow K S p D H (upd H1 D (.lst (xs ++ [.ref l]))) (xs ++ [.ref l]) (parts ++ [ns]) := by
  refine ⟨g.mv.put st hD, upd_same, ?_, by rw [List.length_append, List.length_singleton]; omega⟩
  rw [hide2_self, List.map_append]
  exact g.rp.app (.one (LstI.rp ⟨SqL.of (by rw [hide_ne lD, hide_ne lS]; exact h), hl⟩))
theorem Grow.done {K : PySem.W.Frag} {S p D : Addr} {H H1 : Hp} {xs : List V} {parts : List (List Int)} (g : Grow K S p D H H1 xs parts) (hD : H D = none) (st : StOk H S p) : Rp K (hide S H1) (.ref D) (dLists parts) :=
  .lst (SqL.of (by rw [hide_ne (free_ne st hD)]; exact g.at_)) (by have := g.len; omega) (g.rp.same (hide_same _ _))
theorem take_ok {line : List Int} {n m : Nat} (pm : line.Perm (rgI n)) (hn : n ≤ 10) (h2 : 2 ≤ m) (hm : m ≤ n) : (line.take m).Nodup ∧ 2 ≤ (line.take m).length ∧ (line.take m).length ≤ 10 ∧ ∀ x ∈ line.take m, 0 ≤ x ∧ x < 10 := by
  have hl := pm.length_eq
  rw [rgI_length] at hl
  refine ⟨(pm.nodup_iff.mpr (rgI_nodup n)).sublist (List.take_sublist _ _), by rw [List.length_take]; omega, by rw [List.length_take]; omega, fun x hx => ?_⟩
  have := rgI_mem.mp (pm.mem_iff.mp (List.mem_of_mem_take hx))
  omega
theorem snoc_ok {parts : List (List Int)} {r : List Int} {k : Nat} (h : parts.length ≤ k ∧ ∀ r ∈ parts, r.Nodup ∧ 2 ≤ r.length ∧ r.length ≤ 10 ∧ ∀ x ∈ r, 0 ≤ x ∧ x < 10) (hr : r.Nodup ∧ 2 ≤ r.length ∧ r.length ≤ 10 ∧ ∀ x ∈ r, 0 ≤ x ∧ x < 10) : (parts ++ [r]).length ≤ k + 1 ∧ ∀ r' ∈ parts ++ [r], r'.Nodup ∧ 2 ≤ r'.length ∧ r'.length ≤ 10 ∧ ∀ x ∈ r', 0 ≤ x ∧ x < 10 :=
  ⟨by rw [List.length_append, List.length_singleton]; omega, fun r' h' => by
    rcases List.mem_append.mp h' with z | z
    · exact h.2 r' z
    · rw [List.mem_singleton.mp z]
      exact hr⟩
section
variable {P : Program} {w : World} {K : PySem.W.Frag} {mg : Str → Option Value} {base : Heap} {ad : Nat → Addr} {fd : Nat → FuncData}
theorem ok__law_parts (T : Txt K mg ad fd) : FnOk P w K mg base CX0 3 (ad 72) (fd 72) ["_law_tape_here"] (spParts K) := by
  refine T.F__law_parts.ok sc__law_parts (fun vs H Q E h => ?_) (fun cdv A outer s H vs Q E hr h => ?_)
  · obtain ⟨S, p, rfl, _⟩ := h
    rfl
  · obtain ⟨S, p, rfl, st, k⟩ := h
    refine ⟨_, (pss_cons (ps_set (i := 1) sc__law_parts.nd rfl (Or.inl rfl) (pe_lst (pa_cons (pe_lst (pa_cons (pe_lst (pa_cons pe_int (pa_cons pe_int (pa_cons pe_int pa_nil)))) (pa_cons (pe_lst (pa_cons pe_int (pa_cons pe_int (pa_cons pe_int pa_nil)))) (pa_cons (pe_lst (pa_cons pe_int (pa_cons pe_int pa_nil))) pa_nil)))) (pa_cons (pe_lst (pa_cons (pe_lst (pa_cons pe_int (pa_cons pe_int (pa_cons pe_int (pa_cons pe_int pa_nil))))) pa_nil)) (pa_cons (pe_lst (pa_cons (pe_lst (pa_cons pe_int (pa_cons pe_int pa_nil))) (pa_cons (pe_lst (pa_cons pe_int (pa_cons pe_int pa_nil))) (pa_cons (pe_lst (pa_cons pe_int (pa_cons pe_int pa_nil))) (pa_cons (pe_lst (pa_cons pe_int (pa_cons pe_int pa_nil))) pa_nil))))) (pa_cons (pe_lst (pa_cons (pe_lst (pa_cons pe_int (pa_cons pe_int (pa_cons pe_int pa_nil)))) (pa_cons (pe_lst (pa_cons pe_int (pa_cons pe_int (pa_cons pe_int pa_nil)))) pa_nil))) (pa_cons (pe_lst (pa_cons (pe_lst (pa_cons pe_int (pa_cons pe_int (pa_cons pe_int pa_nil)))) (pa_cons (pe_lst (pa_cons pe_int (pa_cons pe_int (pa_cons pe_int pa_nil)))) pa_nil))) (pa_cons (pe_lst (pa_cons (pe_lst (pa_cons pe_int (pa_cons pe_int (pa_cons pe_int pa_nil)))) pa_nil)) (pa_cons (pe_lst (pa_cons (pe_lst (pa_cons pe_int (pa_cons pe_int pa_nil))) (pa_cons (pe_lst (pa_cons pe_int (pa_cons pe_int pa_nil))) (pa_cons (pe_lst (pa_cons pe_int (pa_cons pe_int pa_nil))) (pa_cons (pe_lst (pa_cons pe_int (pa_cons pe_int pa_nil))) pa_nil))))) (pa_cons (pe_lst (pa_cons (pe_lst (pa_cons pe_int (pa_cons pe_int (pa_cons pe_int (pa_cons pe_int pa_nil))))) (pa_cons (pe_lst (pa_cons pe_int (pa_cons pe_int pa_nil))) pa_nil))) (pa_cons (pe_lst (pa_cons (pe_lst (pa_cons pe_int (pa_cons pe_int pa_nil))) pa_nil)) (pa_cons (pe_lst pa_nil) (pa_cons (pe_lst (pa_cons (pe_lst (pa_cons pe_int (pa_cons pe_int pa_nil))) (pa_cons (pe_lst (pa_cons pe_int (pa_cons pe_int pa_nil))) (pa_cons (pe_lst (pa_cons pe_int (pa_cons pe_int pa_nil))) (pa_cons (pe_lst (pa_cons pe_int (pa_cons pe_int pa_nil))) (pa_cons (pe_lst (pa_cons pe_int (pa_cons pe_int pa_nil))) pa_nil)))))) (pa_cons (pe_lst (pa_cons (pe_lst (pa_cons pe_int (pa_cons pe_int (pa_cons pe_int (pa_cons pe_int pa_nil))))) (pa_cons (pe_lst (pa_cons pe_int (pa_cons pe_int (pa_cons pe_int (pa_cons pe_int pa_nil))))) pa_nil))) (pa_cons (pe_lst (pa_cons (pe_lst (pa_cons pe_int (pa_cons pe_int (pa_cons pe_int pa_nil)))) (pa_cons (pe_lst (pa_cons pe_int (pa_cons pe_int (pa_cons pe_int pa_nil)))) (pa_cons (pe_lst (pa_cons pe_int (pa_cons pe_int (pa_cons pe_int pa_nil)))) pa_nil)))) (pa_cons (pe_lst (pa_cons (pe_lst (pa_cons pe_int (pa_cons pe_int (pa_cons pe_int pa_nil)))) (pa_cons (pe_lst (pa_cons pe_int (pa_cons pe_int (pa_cons pe_int pa_nil)))) pa_nil))) (pa_cons (pe_lst (pa_cons (pe_lst (pa_cons pe_int (pa_cons pe_int (pa_cons pe_int (pa_cons pe_int (pa_cons pe_int (pa_cons pe_int pa_nil))))))) pa_nil)) pa_nil)))))))))))))))))
  (pss_cons (ps_set (i := 2) sc__law_parts.nd rfl (Or.inl rfl) (pe_call (ok__law_draw T) (hr.mono (by decide)) rfl T.m__law_draw T.F__law_draw.kp (b__law_draw T) .nil pass0 (pa_cons (pv 0) (pa_cons pe_int pa_nil))))
  (pss_cons (ps_if (pt_cmpR op_lt (pv 2) pe_int (nomark _)) (pss_one (ps_ret (pe_ix (ixL K) (pv 1) (pv 2) (fun _ _ => rfl))))
  pss_nil)
  (pss_cons (ps_set (i := 3) sc__law_parts.nd rfl (Or.inl rfl) (pe_lst pa_nil))
  (pss_cons (ps_set (i := 4) sc__law_parts.nd rfl (Or.inl rfl) (pe_op op_add pe_int (pe_call (ok__law_draw T) (hr.mono (by decide)) rfl T.m__law_draw T.F__law_draw.kp (b__law_draw T) .nil pass0 (pa_cons (pv 0) (pa_cons pe_int pa_nil)))))
  (pss_cons (ps_for PassesOwn.never rfl (pi_range1 rfl T.g_range (pa_cons (pe_op op_add pe_int (pe_call (ok__law_draw T) (hr.mono (by decide)) rfl T.m__law_draw T.F__law_draw.kp (b__law_draw T) .nil pass0 (pa_cons (pv 0) (pa_cons pe_int pa_nil)))) pa_nil)) (pg_name (i := 5) (x := "_law_lap") sc__law_parts.nd rfl (Or.inl rfl))
  (pss_cons (ps_set (i := 6) sc__law_parts.nd rfl (Or.inl rfl) (pe_op op_add pe_int (pe_call (ok__law_draw T) (hr.mono (by decide)) rfl T.m__law_draw T.F__law_draw.kp (b__law_draw T) .nil pass0 (pa_cons (pv 0) (pa_cons (pe_callB (call_min2 rfl) (by rfl) T.g_min (by decide +kernel) (pa_cons pe_int (pa_cons (pe_op op_sub (pv 4) pe_int) pa_nil))) pa_nil)))))
  (pss_one (ps_expr (pe_bmK K PySem.F.plainAttrs_list PySem.F.slot_list_append PySem.F.type_list_append mt_append (pv 3) (pa_cons (pe_callTy (lstOf K) (by rfl) T.g_list (by decide +kernel) (pa_cons (pe_slice (slN K) (pe_call (ok__law_line T) (hr.mono (by decide)) rfl T.m__law_line T.F__law_line.kp (b__law_line T) .nil pass0 (pa_cons (pv 0) (pa_cons (pv 4) pa_nil))) po_none (po_some (pv 6))) pa_nil)) pa_nil))))))
  (pss_cons (ps_if (pt_cmpR op_lt (pv 2) pe_int (nomark _)) (pss_one (ps_ret (pv 3)))
  pss_nil)
  (pss_cons (ps_set (i := 3) sc__law_parts.nd rfl (Or.inl rfl) (pe_lst pa_nil))
  (pss_cons (ps_set (i := 4) sc__law_parts.nd rfl (Or.inl rfl) (pe_op op_add pe_int (pe_call (ok__law_draw T) (hr.mono (by decide)) rfl T.m__law_draw T.F__law_draw.kp (b__law_draw T) .nil pass0 (pa_cons (pv 0) (pa_cons pe_int pa_nil)))))
  (pss_cons (ps_for PassesOwn.never rfl (pi_range1 rfl T.g_range (pa_cons (pe_op op_add pe_int (pe_call (ok__law_draw T) (hr.mono (by decide)) rfl T.m__law_draw T.F__law_draw.kp (b__law_draw T) .nil pass0 (pa_cons (pv 0) (pa_cons pe_int pa_nil)))) pa_nil)) (pg_name (i := 5) (x := "_law_lap") sc__law_parts.nd rfl (Or.inl rfl))
  (pss_cons (ps_set (i := 7) sc__law_parts.nd rfl (Or.inr rfl) (pe_call (ok__law_draw T) (hr.mono (by decide)) rfl T.m__law_draw T.F__law_draw.kp (b__law_draw T) .nil pass0 (pa_cons (pv 0) (pa_cons (pe_op op_sub (pv 4) pe_int) pa_nil))))
  (pss_cons (ps_setLc (i := 8) (own := [("_law_k", 9)]) (g := gName 9) rfl sc__law_parts.nd rfl rfl (sw_true rfl rfl rfl (by decide +kernel)) (pi_range2 rfl T.g_range (pa_cons pe_int (pa_cons pe_int pa_nil))) (blkOk_by (N := ["_law_tape_here", "_law_shapes", "_law_pick", "_law_parts_here", "_law_wide", "_law_lap", "_law_many", "_law_low", "_law_more", "_law_k"]) (sc := defScope s__law_parts) (by decide +kernel)) (fun _ _ _ _ _ => (pg_name (i := 9) (x := "_law_k") sc__law_parts.nd rfl (Or.inl rfl))) (fun _ _ _ _ _ => (pts_one (pt_cmpR op_eq (pe_call (ok__law_draw T) (hr.mono (by decide)) rfl T.m__law_draw T.F__law_draw.kp (b__law_draw T) .nil pass0 (pa_cons (pv 0) (pa_cons pe_int pa_nil))) pe_int (nomark _)))) (fun _ _ _ _ _ => (pe_op op_add (pv 7) (pv 9))))
  (pss_one (ps_expr (pe_bmK K PySem.F.plainAttrs_list PySem.F.slot_list_append PySem.F.type_list_append mt_append (pv 3) (pa_cons (pe_op (catL K) (pe_lst (pa_cons (pv 7) (pa_cons (pe_op op_add (pv 7) pe_int) pa_nil))) (pv 8)) pa_nil)))))))
  (pss_one (ps_ret (pv 3))))))))))))), ?_⟩
    have hs1 : (1000 : Nat) < sizeLine := by decide
    dsimp only [gName, tSeq, tAsg]
    refine y_useL (K := K) (S := S) (p := p) (d := .list (shapesL.map dLists)) (y_lst (ya_cons (y_lst (ya_cons (y_lst (ya_cons y_int (ya_cons y_int (ya_cons y_int ya_nil)))) (ya_cons (y_lst (ya_cons y_int (ya_cons y_int (ya_cons y_int ya_nil)))) (ya_cons (y_lst (ya_cons y_int (ya_cons y_int ya_nil))) ya_nil)))) (ya_cons (y_lst (ya_cons (y_lst (ya_cons y_int (ya_cons y_int (ya_cons y_int (ya_cons y_int ya_nil))))) ya_nil)) (ya_cons (y_lst (ya_cons (y_lst (ya_cons y_int (ya_cons y_int ya_nil))) (ya_cons (y_lst (ya_cons y_int (ya_cons y_int ya_nil))) (ya_cons (y_lst (ya_cons y_int (ya_cons y_int ya_nil))) (ya_cons (y_lst (ya_cons y_int (ya_cons y_int ya_nil))) ya_nil))))) (ya_cons (y_lst (ya_cons (y_lst (ya_cons y_int (ya_cons y_int (ya_cons y_int ya_nil)))) (ya_cons (y_lst (ya_cons y_int (ya_cons y_int (ya_cons y_int ya_nil)))) ya_nil))) (ya_cons (y_lst (ya_cons (y_lst (ya_cons y_int (ya_cons y_int (ya_cons y_int ya_nil)))) (ya_cons (y_lst (ya_cons y_int (ya_cons y_int (ya_cons y_int ya_nil)))) ya_nil))) (ya_cons (y_lst (ya_cons (y_lst (ya_cons y_int (ya_cons y_int (ya_cons y_int ya_nil)))) ya_nil)) (ya_cons (y_lst (ya_cons (y_lst (ya_cons y_int (ya_cons y_int ya_nil))) (ya_cons (y_lst (ya_cons y_int (ya_cons y_int ya_nil))) (ya_cons (y_lst (ya_cons y_int (ya_cons y_int ya_nil))) (ya_cons (y_lst (ya_cons y_int (ya_cons y_int ya_nil))) ya_nil))))) (ya_cons (y_lst (ya_cons (y_lst (ya_cons y_int (ya_cons y_int (ya_cons y_int (ya_cons y_int ya_nil))))) (ya_cons (y_lst (ya_cons y_int (ya_cons y_int ya_nil))) ya_nil))) (ya_cons (y_lst (ya_cons (y_lst (ya_cons y_int (ya_cons y_int ya_nil))) ya_nil)) (ya_cons (y_lst ya_nil) (ya_cons (y_lst (ya_cons (y_lst (ya_cons y_int (ya_cons y_int ya_nil))) (ya_cons (y_lst (ya_cons y_int (ya_cons y_int ya_nil))) (ya_cons (y_lst (ya_cons y_int (ya_cons y_int ya_nil))) (ya_cons (y_lst (ya_cons y_int (ya_cons y_int ya_nil))) (ya_cons (y_lst (ya_cons y_int (ya_cons y_int ya_nil))) ya_nil)))))) (ya_cons (y_lst (ya_cons (y_lst (ya_cons y_int (ya_cons y_int (ya_cons y_int (ya_cons y_int ya_nil))))) (ya_cons (y_lst (ya_cons y_int (ya_cons y_int (ya_cons y_int (ya_cons y_int ya_nil))))) ya_nil))) (ya_cons (y_lst (ya_cons (y_lst (ya_cons y_int (ya_cons y_int (ya_cons y_int ya_nil)))) (ya_cons (y_lst (ya_cons y_int (ya_cons y_int (ya_cons y_int ya_nil)))) (ya_cons (y_lst (ya_cons y_int (ya_cons y_int (ya_cons y_int ya_nil)))) ya_nil)))) (ya_cons (y_lst (ya_cons (y_lst (ya_cons y_int (ya_cons y_int (ya_cons y_int ya_nil)))) (ya_cons (y_lst (ya_cons y_int (ya_cons y_int (ya_cons y_int ya_nil)))) ya_nil))) (ya_cons (y_lst (ya_cons (y_lst (ya_cons y_int (ya_cons y_int (ya_cons y_int (ya_cons y_int (ya_cons y_int (ya_cons y_int ya_nil))))))) ya_nil)) ya_nil)))))))))))))))) st fun v H1 m1 r1 => ?_
    refine ⟨_, rfl, S, p, _, rfl, m1.ok, by decide, by decide, fun r H2 q0 q1 m2 => ?_⟩
    have m12 := m1.trans m2
    refine ⟨_, rfl, _, _, rfl, rfl, _, rfl, ?_⟩
    by_cases c : r < 15
    · rw [decide_eq_true c]
      obtain ⟨L, xs, rfl, hL, hz, ra⟩ := (m2.rp r1).lstA
      have hj : r.toNat < (shapesL.map dLists).length := by
        show r.toNat < 15
        omega
      obtain ⟨x, hx, rx⟩ := ra.getD (List.getElem?_eq_getElem hj)
      refine iteT ⟨_, rfl, _, rfl, L, xs, r, x, rfl, rfl, (hide_same _ _).seq hL, at_of (j := r.toNat) (by omega) hx, ?_⟩
      rw [List.getElem_map] at rx
      exact k _ _ _ m12 rx (shapes_ok _ (List.getElem_mem _))
    rw [decide_eq_false c]
    refine iteF ⟨(by show 0 ≤ sizeLine; decide), fun D hD => ?_⟩
    have hD0 := m12.free hD
    have g0 := Grow.start (K := K) st m12 hD
    generalize upd H2 D (.lst []) = H3 at g0 ⊢
    refine ⟨_, rfl, S, p, _, rfl, g0.mv.ok, by decide, by decide, fun a H4 a0 a1 m4 => ⟨_, _, rfl, rfl, ?_⟩⟩
    have g4 := g0.mvs hD0 st m4
    refine ⟨_, rfl, S, p, _, rfl, g4.mv.ok, by decide, by decide, fun b H5 b0 b1 m5 => ⟨_, _, rfl, rfl, _, rfl, by omega, by omega, ?_⟩⟩
    have g5 := g4.mvs hD0 st m5
    refine for_range (lo := 0) (n := (1 + b).toNat) (fun i σ H6 => ∃ xs parts v5 v6, σ = [some (.ref S), some v, some (.int r), some (.ref D), some (.int (3 + a)), v5, v6, none, none, none] ∧ Grow K S p D H H6 xs parts ∧ parts.length = xs.length ∧ (parts.length ≤ i ∧ ∀ r ∈ parts, r.Nodup ∧ 2 ≤ r.length ∧ r.length ≤ 10 ∧ ∀ x ∈ r, 0 ≤ x ∧ x < 10))
      ⟨[], [], none, none, rfl, g5, rfl, Nat.le_refl _, fun r hr => by cases hr⟩ (fun i σ H6 hi ⟨xs, parts, v5, v6, e6, g6, lx, po⟩ => ?_) (fun σ H6 ⟨xs, parts, v5, v6, e6, g6, lx, po⟩ => ?_)
    · subst e6
      refine ⟨_, rfl, _, rfl, _, _, rfl, rfl, _, _, rfl, S, p, _, rfl, g6.mv.ok, ?_, ?_, fun e H7 e0 e1 m7 => ⟨_, _, rfl, rfl, ?_⟩⟩
      · split <;> omega
      · split <;> omega
      have g7 := g6.mvs hD0 st m7
      refine ⟨_, rfl, .inl ⟨rfl, _, SqL.of g7.at_⟩, _, rfl, _, rfl, S, p, _, rfl, g7.mv.ok, by omega, by omega, fun l line H8 m8 t8 pm => ?_⟩
      have g8 := g7.mvs hD0 st m8
      have ll := pm.length_eq
      rw [rgI_length] at ll
      have em : 2 + e ≤ 3 + a := by
        split at e1 <;> omega
      dsimp only [tNoPart]
      refine ⟨_, rfl, _, rfl, l, _, rfl, t8.show.1, fun p9 H9 s9 t9 => ?_⟩
      rw [cutI_take (by omega) (by omega)] at t9
      have g9 := g8.mvs hD0 st ((Mv.refl g8.mv.ok).then s9)
      refine ⟨p9, _, rfl, .inr t9.1, fun l2 hl2 => ?_⟩
      have s10 := same_upd (o := .lst ((line.take (2 + e).toNat).map V.int)) hl2
      have g10 := g9.mvs hD0 st ((Mv.refl g9.mv.ok).then s10)
      have lD : l2 ≠ D := fun z => by rw [z, g9.at_] at hl2; cases hl2
      refine ⟨D, xs, .ref l2, rfl, rfl, g10.at_, by omega, ?_⟩
      refine ⟨_, _, _, _, rfl, g10.push hD0 st lD (free_ne g9.mv.ok hl2) upd_same (by rw [List.length_take]; omega) (by omega), by simp [lx], snoc_ok po (take_ok pm (by omega) (by omega) (by omega))⟩
    · subst e6
      refine ⟨_, rfl, _, _, rfl, rfl, _, rfl, ?_⟩
      by_cases c2 : r < 17
      · rw [decide_eq_true c2]
        exact iteT ⟨_, rfl, k _ _ _ g6.mv (g6.done hD0 st) ⟨by omega, po.2⟩⟩
      rw [decide_eq_false c2]
      refine iteF ⟨(by show 0 ≤ sizeLine; decide), fun D2 hD2 => ?_⟩
      have hD20 := g6.mv.free hD2
      have f0 := Grow.start (K := K) st g6.mv hD2
      generalize upd H6 D2 (.lst []) = H7 at f0 ⊢
      refine ⟨_, rfl, S, p, _, rfl, f0.mv.ok, by decide, by decide, fun a2 H8 a20 a21 m8 => ⟨_, _, rfl, rfl, ?_⟩⟩
      have f8 := f0.mvs hD20 st m8
      refine ⟨_, rfl, S, p, _, rfl, f8.mv.ok, by decide, by decide, fun b2 H9 b20 b21 m9 => ⟨_, _, rfl, rfl, _, rfl, by omega, by omega, ?_⟩⟩
      have f9 := f8.mvs hD20 st m9
      refine for_range (lo := 0) (n := (4 + b2).toNat) (fun i σ H6 => ∃ xs parts v5 v6 v7 v8 v9, σ = [some (.ref S), some v, some (.int r), some (.ref D2), some (.int (7 + a2)), v5, v6, v7, v8, v9] ∧ Grow K S p D2 H H6 xs parts ∧ parts.length = xs.length ∧ (parts.length ≤ i ∧ ∀ r ∈ parts, r.Nodup ∧ 2 ≤ r.length ∧ r.length ≤ 10 ∧ ∀ x ∈ r, 0 ≤ x ∧ x < 10))
        ⟨[], [], _, _, _, _, _, rfl, f9, rfl, Nat.le_refl _, fun r hr => by cases hr⟩ (fun i σ H6 hi ⟨xs, parts, v5, v6, v7, v8, v9, e6, g6, lx, po⟩ => ?_) (fun σ H6 ⟨xs, parts, v5, v6, v7, v8, v9, e6, g6, lx, po⟩ => ?_)
      · subst e6
        refine ⟨_, rfl, _, rfl, _, _, rfl, rfl, S, p, _, rfl, g6.mv.ok, by omega, by omega, fun lo H7 l0 l1 m7 => ?_⟩
        have g7 := g6.mvs hD20 st m7
        refine ⟨_, _, rfl, ⟨by decide, by decide, by decide, by decide⟩, fun Dm hDm => ?_⟩
        have DmS := free_ne g7.mv.ok hDm
        have DmD : Dm ≠ D2 := fun z => by rw [z, g7.at_] at hDm; cases hDm
        refine lc_range (lo := 2) (n := 3) (fun i H1 => ∃ ns : List Int, Mv S p H7 H1 ∧ H1 Dm = some (.lst (ns.map V.int)) ∧ ns.length ≤ i ∧ ns.Pairwise (· < ·) ∧ ∀ x ∈ ns, lo + 2 ≤ x ∧ x < lo + 2 + i)
          ⟨[], (Mv.refl g7.mv.ok).put g7.mv.ok hDm, upd_same, Nat.le_refl _, .nil, fun x hx => by cases hx⟩ (fun j H1 hj ⟨ns, mv, hz, hl, pw, hb⟩ => ?_) (fun H1 ⟨ns, mv, hz, hl, pw, hb⟩ => ?_)
        · refine ⟨rfl, _, rfl, S, p, _, rfl, mv.ok, by decide, by decide, fun e H2 e0 e1 mv2 => ⟨rfl, _, rfl, ?_⟩⟩
          have hz2 := mv2.get DmS hz
          cases decide (V.int e = V.int 1) with
          | false => exact iteF ⟨ns, mv.trans mv2, hz2, by omega, pw, fun x hx => by have := hb x hx; omega⟩
          | true =>
            refine iteT ⟨_, rfl, _, rfl, _, _, rfl, rfl, _, hz2, by rw [List.length_map]; omega, ns ++ [lo + (2 + (j : Int))], (mv.trans mv2).put g7.mv.ok hDm, ?_, by rw [List.length_append, List.length_singleton]; omega, ?_, ?_⟩
            · rw [upd_same, List.map_append]
              rfl
            · refine List.pairwise_append.mpr ⟨pw, by simp, fun x hx y hy => ?_⟩
              have := hb x hx
              rw [List.mem_singleton.mp hy]
              omega
            · intro x hx
              rcases List.mem_append.mp hx with z | z
              · have := hb x z
                omega
              · rw [List.mem_singleton.mp z]
                omega
        · have g8 := g7.mvs hD20 st mv
          refine ⟨_, rfl, .inl ⟨rfl, _, SqL.of g8.at_⟩, _, rfl, _, rfl, _, _, rfl, rfl, (by show 2 ≤ sizeLine; decide), fun l1 hl1 => ?_⟩
          have s9 := same_upd (o := .lst [V.int lo, V.int (lo + 1)]) hl1
          have g9 := g8.mvs hD20 st ((Mv.refl g8.mv.ok).then s9)
          refine ⟨_, rfl, l1, Dm, _, _, rfl, rfl, SqL.of upd_same, SqL.of (s9 _ _ hz), by rw [List.length_map]; show 2 + _ ≤ 2000; omega, fun l2 hl2 => ?_⟩
          have ee : [V.int lo, V.int (lo + 1)] ++ ns.map V.int = ([lo, lo + 1] ++ ns).map V.int := by rw [List.map_append]; rfl
          rw [ee]
          have s10 := same_upd (o := .lst (([lo, lo + 1] ++ ns).map V.int)) hl2
          have g10 := g9.mvs hD20 st ((Mv.refl g9.mv.ok).then s10)
          have lD : l2 ≠ D2 := fun z => by rw [z, g9.at_] at hl2; cases hl2
          have e3 : ((3 : Nat) : Int) = 3 := rfl
          refine ⟨D2, xs, .ref l2, rfl, rfl, g10.at_, by omega, ?_⟩
          refine ⟨_, _, _, _, _, _, _, rfl, g10.push hD20 st lD (free_ne g9.mv.ok hl2) upd_same (by simp only [List.length_append, List.length_cons, List.length_nil]; omega) (by omega), by simp [lx], snoc_ok po ⟨?_, ?_, ?_, ?_⟩⟩
          · refine List.nodup_append.mpr ⟨by simp; omega, pw.imp (fun h => by omega), fun x hx y hy => ?_⟩
            have := hb y hy
            simp only [List.mem_cons, List.not_mem_nil, or_false] at hx
            omega
          · simp only [List.length_append, List.length_cons, List.length_nil]
            omega
          · simp only [List.length_append, List.length_cons, List.length_nil]
            omega
          · intro x hx
            rcases List.mem_append.mp hx with z | z
            · simp only [List.mem_cons, List.not_mem_nil, or_false] at z
              omega
            · have := hb x z
              omega
      · subst e6
        exact ⟨_, rfl, k _ _ _ g6.mv (g6.done hD20 st) ⟨by omega, po.2⟩⟩
end
end LK
namespace LK
open PySem PySem.Spec PyProof.Rows L2
theorem tIf_join {c : TT} {tb : TS} {D : Ends} {σ : L2.St} {H : Hp} (G : L2.St → Hp → Prop) (hn : ∀ σ' H', G σ' H' → D.nx σ' H') (h : (∀ σ' H', G σ' H' → D.nx σ' H') → tIfS c tb tNext D σ H) : tIfS c tb tNext D σ H := h hn
def labels (names ns : List Int) : List Int := ns.map fun x => names.getD x.toNat 0
def relab (names : List Int) (rows : List (List Int)) : List (List Int) := rows.map fun r => srt (labels names r)
def WebOk (n : Int) (rows : List (List Int)) : Prop := 1 ≤ n ∧ n ≤ 10 ∧ rows.length ≤ 8 ∧ ∀ r ∈ rows, r.Pairwise (· < ·) ∧ 2 ≤ r.length ∧ ∀ x ∈ r, 0 ≤ x ∧ x < n
theorem lab_at {ns : List Int} {i : Nat} {v : V} (h : (ns.map V.int)[i]? = some v) : ∃ x, ns[i]? = some x ∧ v = .int x := by
  rw [List.getElem?_map] at h
  cases e : ns[i]? with
  | none => rw [e] at h; cases h
  | some x => rw [e] at h; exact ⟨x, rfl, (Option.some.inj h).symm⟩
theorem getD_at {l : List Int} {i : Nat} {x : Int} (h : l[i]? = some x) : l.getD i 0 = x := by rw [List.getD_eq_getElem?_getD, h]; rfl
theorem getD_mem {l : List Int} {i : Nat} (h : i < l.length) : l.getD i 0 ∈ l := by
  rw [List.getD_eq_getElem?_getD, List.getElem?_eq_getElem h]
  exact List.getElem_mem h
theorem nodup_get {l : List Int} (nd : l.Nodup) {i j : Nat} (hi : i < l.length) (hj : j < l.length) (e : l.getD i 0 = l.getD j 0) : i = j := by
  rw [List.getD_eq_getElem?_getD, List.getD_eq_getElem?_getD, List.getElem?_eq_getElem hi, List.getElem?_eq_getElem hj] at e
  have e : l[i] = l[j] := e
  exact (List.getElem_inj nd).mp e
theorem labels_nodup {names ns : List Int} (nd : names.Nodup) (hn : ns.Nodup) (hb : ∀ x ∈ ns, 0 ≤ x ∧ x < (names.length : Int)) : (labels names ns).Nodup := by
  unfold labels
  induction ns with
  | nil => simp
  | cons a l ih =>
    rw [List.map_cons, List.nodup_cons]
    have hl := List.nodup_cons.mp hn
    refine ⟨fun z => ?_, ih hl.2 fun x hx => hb x (by simp [hx])⟩
    obtain ⟨y, hy, e⟩ := List.mem_map.mp z
    have h1 := hb a (by simp)
    have h2 := hb y (by simp [hy])
    have := nodup_get nd (by omega) (by omega) e
    have : y = a := by omega
    exact hl.1 (this ▸ hy)
theorem srt_lt {l : List Int} (nd : l.Nodup) : (srt l).Pairwise (· < ·) := by
  have h1 := srt_pw l
  have h2 : (srt l).Nodup := (srt_perm l).nodup_iff.mpr nd
  exact (List.pairwise_iff_getElem.mpr fun i j hi hj hij => by
    have a := List.pairwise_iff_getElem.mp h1 i j hi hj hij
    have b := List.pairwise_iff_getElem.mp h2 i j hi hj hij
    omega)
theorem relab_ok {names : List Int} {n : Int} (pm : names.Perm (rgI n.toNat)) (h0 : 0 ≤ n) {r : List Int} (hn : r.Nodup) (h2 : 2 ≤ r.length) (hb : ∀ x ∈ r, 0 ≤ x ∧ x < n) : (srt (labels names r)).Pairwise (· < ·) ∧ 2 ≤ (srt (labels names r)).length ∧ ∀ x ∈ srt (labels names r), 0 ≤ x ∧ x < n := by
  have hl := pm.length_eq
  rw [rgI_length] at hl
  refine ⟨srt_lt (labels_nodup (pm.nodup_iff.mpr (rgI_nodup _)) hn fun x hx => by have := hb x hx; omega), by rw [srt_length]; unfold labels; rw [List.length_map]; exact h2, fun x hx => ?_⟩
  have hx := (srt_perm _).mem_iff.mp hx
  unfold labels at hx
  obtain ⟨y, hy, rfl⟩ := List.mem_map.mp hx
  have := hb y hy
  have := rgI_mem.mp (pm.mem_iff.mp (getD_mem (l := names) (i := y.toNat) (by omega)))
  omega
def spWeb (K : PySem.W.Frag) : Sp := fun vs H Q _ => ∃ (S p : Addr), vs = [.ref S] ∧ StOk H S p ∧ ∀ v n rows H', Mv S p H H' → Rp K (hide S H') v (bookD n rows) → WebOk n rows → Q v H'
section
variable {P : Program} {w : World} {K : PySem.W.Frag} {mg : Str → Option Value} {base : Heap} {ad : Nat → Addr} {fd : Nat → FuncData}
theorem ok__law_book (T : Txt K mg ad fd) : FnOk P w K mg base CX0 4 (ad 73) (fd 73) ["_law_tape_here"] (spWeb K) := by
  refine T.F__law_book.ok sc__law_book (fun vs H Q E h => ?_) (fun cdv A outer s H vs Q E hr h => ?_)
  · obtain ⟨S, p, rfl, _⟩ := h
    rfl
  · obtain ⟨S, p, rfl, st, k⟩ := h
    refine ⟨_, (pss_cons (ps_set (i := 1) sc__law_book.nd rfl (Or.inl rfl) (pe_call (ok__law_parts T) (hr.mono (by decide)) rfl T.m__law_parts T.F__law_parts.kp (b__law_parts T) .nil pass0 (pa_cons (pv 0) pa_nil)))
  (pss_cons (ps_set (i := 2) sc__law_book.nd rfl (Or.inl rfl) (pe_op op_add pe_int (pe_op op_fdiv (pe_call (ok__law_draw T) (hr.mono (by decide)) rfl T.m__law_draw T.F__law_draw.kp (b__law_draw T) .nil pass0 (pa_cons (pv 0) (pa_cons pe_int pa_nil))) pe_int)))
  (pss_cons (ps_for PassesOwn.never rfl (piL K (pv 1)) (pg_name (i := 3) (x := "_law_part") sc__law_book.nd rfl (Or.inl rfl))
  (pss_one (ps_set (i := 2) sc__law_book.nd rfl (Or.inl rfl) (pe_callB (call_max2 rfl) (by rfl) T.g_max (by decide +kernel) (pa_cons (pv 2) (pa_cons (pe_op op_add (pe_callB (maxR K) (by rfl) T.g_max (by decide +kernel) (pa_cons (pv 3) pa_nil)) pe_int) pa_nil))))))
  (pss_cons (ps_if (pt_cmpR op_lt (pv 2) pe_int (nomark _)) (pss_one (ps_set (i := 2) sc__law_book.nd rfl (Or.inl rfl) (pe_op op_add (pv 2) (pe_op op_fdiv (pe_call (ok__law_draw T) (hr.mono (by decide)) rfl T.m__law_draw T.F__law_draw.kp (b__law_draw T) .nil pass0 (pa_cons (pv 0) (pa_cons pe_int pa_nil))) pe_int))))
  pss_nil)
  (pss_cons (ps_set (i := 4) sc__law_book.nd rfl (Or.inr rfl) (pe_call (ok__law_line T) (hr.mono (by decide)) rfl T.m__law_line T.F__law_line.kp (b__law_line T) .nil pass0 (pa_cons (pv 0) (pa_cons (pv 2) pa_nil))))
  (pss_one (ps_ret (pe_tup (pa_cons (pv 2) (pa_cons (pe_callTy (tupOf K) (by rfl) T.g_tuple (by decide +kernel) (pa_cons (pe_lc (own := [("_law_part", 3)]) (g := gName 3) rfl sc__law_book.nd (piL K (pv 1)) (blkOk_by (N := ["_law_tape_here", "_law_parts_here", "_law_size", "_law_part", "_law_names", "_law_x"]) (sc := defScope s__law_book) (by decide +kernel)) (fun _ _ _ _ _ => (pg_name (i := 3) (x := "_law_part") sc__law_book.nd rfl (Or.inl rfl))) (fun _ _ _ _ _ => pts_nil) (fun _ _ _ _ _ => (pe_callTy (tupOf K) (by rfl) T.g_tuple (by decide +kernel) (pa_cons (pe_callB (srtI K) (by rfl) T.g_sorted (by decide +kernel) (pa_cons (pe_lc (own := [("_law_x", 5)]) (g := gName 5) rfl sc__law_book.nd (piL K (pv 3)) (blkOk_by (N := ["_law_tape_here", "_law_parts_here", "_law_size", "_law_part", "_law_names", "_law_x"]) (sc := { kind := PySem.ScopeKind.function, names := [ (PySem.Str.ofString ".0", PySem.NameKind.local), (PySem.Str.ofString "_law_part", PySem.NameKind.local), (PySem.Str.ofString "tuple", PySem.NameKind.globalImplicit), (PySem.Str.ofString "sorted", PySem.NameKind.globalImplicit), (PySem.Str.ofString "_law_names", PySem.NameKind.cell)], isGenerator := false, isCoroutine := false, more := [] : PySem.Scope }) (by decide +kernel)) (fun _ _ _ _ _ => (pg_name (i := 5) (x := "_law_x") sc__law_book.nd rfl (Or.inl rfl))) (fun _ _ _ _ _ => pts_nil) (fun _ _ _ _ _ => (pe_ix (ixT K) (pv 4) (pv 5) (fun _ _ => rfl)))) pa_nil)) pa_nil)))) pa_nil)) pa_nil)))))))))), ?_⟩
    refine ⟨_, rfl, S, p, rfl, st, fun v parts H1 m1 r1 po => ?_⟩
    refine ⟨_, rfl, S, p, _, rfl, m1.ok, by decide, by decide, fun r H2 q0 q1 m2 => ⟨_, _, rfl, rfl, ⟨by decide, by decide⟩, _, _, rfl, rfl, ?_⟩⟩
    have m12 := m1.trans m2
    obtain ⟨L, xs, rfl, hL, hz, ra⟩ := (m2.rp r1).lstA
    have lx : xs.length = parts.length := by rw [ra.length, List.length_map]
    refine ⟨_, rfl, L, rfl, ⟨_, (hide_same _ _).seq hL⟩, for_list (K := K) (a := L) (xs := xs) (fun i σ H3 => ∃ sz v3, σ = [some (.ref S), some (.ref L), some (.int sz), v3, none, none] ∧ H3 = H2 ∧ 1 ≤ sz ∧ sz ≤ 10 ∧ ∀ r ∈ parts.take i, ∀ x ∈ r, x < sz)
      ⟨_, none, rfl, rfl, by omega, by omega, fun r hr => by simp at hr⟩ (fun i σ H3 _ ⟨_, _, _, e, _⟩ => by rw [e]; exact (hide_same _ _).seq hL) (fun i x σ H3 hi ⟨sz, v3, e1, e2, z1, z2, hall⟩ => ?_) (fun σ H3 ⟨sz, v3, e1, e2, z1, z2, hall⟩ => ?_)⟩
    · subst e1 e2
      obtain ⟨ns, a2, hn2, rfl, t⟩ := ra.rowL hi
      have t := t.same (hide_same S H3)
      have hns := po.2 ns (List.mem_of_getElem? hn2)
      refine ⟨_, rfl, _, rfl, a2, ns, rfl, t.1, by omega, fun mx hm hmx => ⟨_, _, rfl, rfl, _, _, rfl, _, _, rfl, rfl, ?_, ?_, ?_⟩⟩
      · split <;> omega
      · have := hns.2.2.2 mx hm
        split <;> omega
      · intro r hr x hx
        rw [List.take_succ, hn2] at hr
        rcases List.mem_append.mp hr with z | z
        · have := hall r z x hx
          split <;> omega
        · have er : r = ns := by simpa using z
          subst er
          have := hmx x hx
          split <;> omega
    · subst e1 e2
      rw [lx, List.take_length] at hall
      dsimp only [gName, tSeq, tAsg, tRet]
      refine tIf_join (fun σ' H' => ∃ sz v3, σ' = [some (.ref S), some (.ref L), some (.int sz), v3, none, none] ∧ Mv S p H3 H' ∧ 1 ≤ sz ∧ sz ≤ 10 ∧ ∀ r ∈ parts, ∀ x ∈ r, x < sz) (fun σ' H' ⟨sz, v3, e1, m3, z1, z2, hall⟩ => ?_) (fun hn => ?_)
      · subst e1
        refine ⟨_, rfl, _, rfl, S, p, sz, rfl, m3.ok, by omega, by omega, fun a names H4 m4 tn pm => ?_⟩
        have m34 := m3.trans m4
        have ra4 := ra.same (m34.same.trans (hide_same S H4))
        have hL4 : SqL K H4 L xs := (m34.same.trans (hide_same S H4)).seq hL
        have tn4 := tn.show
        have ln := pm.length_eq
        rw [rgI_length] at ln
        refine ⟨_, rfl, _, rfl, L, rfl, ⟨_, hL4⟩, fun D hD => ?_⟩
        refine lcL (K := K) (xs := xs) (fun _ => true) (fun j => dTup (srt (labels names (parts.getD j [])))) hD hL4 hz (fun _ _ _ => noL_dTup _) (fun j x H5 hj s5 Q1 Q2 k1 k2 => ?_) (fun ys H5 s5 hy r5 => ?_)
        · obtain ⟨ns, a2, hn2, rfl, t⟩ := ra4.rowL hj
          have t := t.same s5
          have en : parts.getD j [] = ns := by rw [List.getD_eq_getElem?_getD, hn2]; rfl
          rw [en] at k1
          have hns := po.2 ns (List.mem_of_getElem? hn2)
          have hbig := hall ns (List.mem_of_getElem? hn2)
          refine ⟨rfl, _, rfl, a2, rfl, ⟨_, t.1⟩, fun D3 hD3 => ?_⟩
          refine lcL (K := K) (xs := ns.map V.int) (fun _ => true) (fun j => .int (names.getD (ns.getD j 0).toNat 0)) hD3 t.1 (by rw [List.length_map]; exact t.2) (fun _ _ _ => rfl) (fun z v H6 hz6 s6 Q5 Q6 k5 k6 => ?_) (fun zs H6 s6 hz6 r6 => ?_)
          · obtain ⟨i, hi, rfl⟩ := lab_at hz6
            have eg := getD_at hi
            rw [eg] at k5
            have hb := hns.2.2.2 i (List.mem_of_getElem? hi)
            have hb2 := hbig i (List.mem_of_getElem? hi)
            exact ⟨rfl, _, rfl, _, rfl, a, _, _, _, rfl, rfl, (tn4.same (s5.trans s6)).1.1, at_of (j := i.toNat) (by omega) (mapD (by omega)), k5 rfl _ _ (Same.refl _) (.int _)⟩
          · rw [filter_true] at r6
            have ez : (List.range (ns.map V.int).length).map (fun j => PyData.int (names.getD (ns.getD j 0).toNat 0)) = (labels names ns).map PyData.int := by
              rw [List.length_map]
              unfold labels
              rw [List.map_map]
              exact map_range (fun x : Int => PyData.int (names.getD x.toNat 0)) 0 ns
            rw [ez] at r6
            have := r6.ofInts
            subst this
            dsimp only [tNil]
            refine ⟨D3, labels names ns, rfl, SqL.of hz6, fun ns' q pm' pw' hq => ?_⟩
            have es := srt_eq pm' pw'
            subst es
            have s7 := same_upd (o := .lst ((srt (labels names ns)).map V.int)) hq
            refine tupL_use (SqL.of upd_same) fun q2 H8 s8 hq2 => k1 rfl _ _ (s6.trans (s7.trans s8)) (TupI.rp ⟨hq2, ?_⟩)
            rw [srt_length]
            unfold labels
            rw [List.length_map]
            omega
        · rw [filter_true] at r5
          have ez : (List.range xs.length).map (fun j => dTup (srt (labels names (parts.getD j [])))) = (relab names parts).map dTup := by
            rw [lx]
            unfold relab
            rw [List.map_map]
            exact map_range (fun r : List Int => dTup (srt (labels names r))) [] parts
          rw [ez] at r5
          have ly : ys.length = parts.length := by rw [r5.length, List.length_map]; unfold relab; rw [List.length_map]
          have hpl := po.1
          dsimp only [tNil]
          refine tupL_use (SqL.of hy) fun q H6 s6 hq => ⟨(by show 2 ≤ sizeLine; decide), fun q2 hq2 => ?_⟩
          have s7 := same_upd (o := .tup [V.int sz, .ref q]) hq2
          have m7 := (m12.trans m34).then (s5.trans (s6.trans s7))
          refine k _ sz (relab names parts) _ m7 (rp_hide m7.ok (noL_book _ _) (rp_bookNew hq (by omega) (r5.same s6) hq2)) ⟨by omega, by omega, by unfold relab; rw [List.length_map]; omega, fun r hr => ?_⟩
          unfold relab at hr
          obtain ⟨r0, hr0, rfl⟩ := List.mem_map.mp hr
          have h0 := po.2 r0 hr0
          exact relab_ok pm (by omega) h0.1 h0.2.1 fun x hx => ⟨(h0.2.2.2 x hx).1, hall r0 hr0 x hx⟩
      · refine ⟨_, rfl, _, _, rfl, rfl, _, rfl, ?_⟩
        by_cases c : sz < 6
        · rw [decide_eq_true c]
          refine iteT ⟨_, rfl, _, rfl, S, p, _, rfl, m12.ok, by decide, by decide, fun r H2 q0 q1 m3 => ⟨_, _, rfl, rfl, ⟨by decide, by decide⟩, _, _, rfl, rfl, ?_⟩⟩
          exact hn _ _ ⟨_, _, rfl, m3, by omega, by omega, fun r hr x hx => by have := hall r hr x hx; omega⟩
        · rw [decide_eq_false c]
          exact iteF (hn _ _ ⟨_, _, rfl, Mv.refl m12.ok, z1, z2, hall⟩)
end
end LK
namespace LK
open PySem PySem.Spec PyProof.Rows L2
def dRowsL (T : List (List Int)) : PyData := .list (T.map dTup)
def spTiesL (K : PySem.W.Frag) : Sp := fun vs H Q _ => ∃ v n rows, vs = [v] ∧ Rp K H v (bookD n rows) ∧ 0 ≤ n ∧ n ≤ 45 ∧ ∀ p H', Same H H' → H p = none → Rp K H' (.ref p) (dRowsL (tiesL n rows)) → Q (.ref p) H'
/-- the ties at x with things below m -/
def tiesTo (rows : List (List Int)) (x m : Nat) : List (List Int) := ((List.range m).filter fun (y : Nat) => decide (x < y) && tiedB rows x y).map fun (y : Nat) => [(x : Int), (y : Int)]
theorem tiesTo_start (rows : List (List Int)) (x : Nat) : tiesTo rows x (x + 1) = [] := by
  unfold tiesTo
  rw [List.map_eq_nil_iff, List.filter_eq_nil_iff]
  intro y hy
  have := List.mem_range.mp hy
  rw [decide_eq_false (by omega)]
  simp
theorem tiesTo_step (rows : List (List Int)) (x m : Nat) (h : x < m) : tiesTo rows x (m + 1) = tiesTo rows x m ++ if tiedB rows x m then [[(x : Int), (m : Int)]] else [] := by
  unfold tiesTo
  rw [List.range_succ, List.filter_append, List.map_append]
  congr 1
  cases c : tiedB rows x m with
  | true => simp [h, c]
  | false => simp [h, c]
theorem tiesTo_end (n : Int) (rows : List (List Int)) (x : Nat) : tiesTo rows x n.toNat = tiesAt n rows x := by
  unfold tiesTo tiesAt nearN
  rw [List.filter_filter]
  congr 1
  refine List.filter_congr fun y _ => ?_
  by_cases c : x < y
  · have c1 : (x : Int) < (y : Int) := by omega
    have c2 : ¬ (x : Int) = (y : Int) := by omega
    simp [c, c1, c2]
  · have c1 : ¬ (x : Int) < (y : Int) := by omega
    simp [c, c1]
section
variable {P : Program} {w : World} {K : PySem.W.Frag} {mg : Str → Option Value} {base : Heap} {ad : Nat → Addr} {fd : Nat → FuncData}
theorem ok__law_ties (T : Txt K mg ad fd) : FnOk P w K mg base CX0 1 (ad 75) (fd 75) ["_law_web"] (spTiesL K) := by
  refine T.F__law_ties.ok sc__law_ties (fun vs H Q E h => ?_) (fun cdv A outer s H vs Q E hr h => ?_)
  · obtain ⟨v, n, rows, rfl, _⟩ := h
    rfl
  · obtain ⟨v, n, rows, rfl, h, h0, h1, k⟩ := h
    obtain ⟨b, L, xs, rfl, hb, hL, hz, hr2⟩ := rp_book h
    refine ⟨_, (pss_cons (ps_set (i := 1) sc__law_ties.nd rfl (Or.inl rfl) (pe_lst pa_nil))
  (pss_cons (ps_for PassesOwn.never rfl (pi_range1 rfl T.g_range (pa_cons (pe_ix (ixT K) (pv 0) pe_int (fun _ _ => rfl)) pa_nil)) (pg_name (i := 2) (x := "_law_low") sc__law_ties.nd rfl (Or.inr rfl))
  (pss_one (ps_for PassesOwn.never rfl (pi_range2 rfl T.g_range (pa_cons (pe_op op_add (pv 2) pe_int) (pa_cons (pe_ix (ixT K) (pv 0) pe_int (fun _ _ => rfl)) pa_nil))) (pg_name (i := 3) (x := "_law_high") sc__law_ties.nd rfl (Or.inr rfl))
  (pss_one (ps_if (ptTru K (pe_lc (own := [("_law_row", 4)]) (g := gName 4) rfl sc__law_ties.nd (piT K (pe_ix (ixT K) (pv 0) pe_int (fun _ _ => rfl))) (blkOk_by (N := ["_law_web", "_law_ties_here", "_law_low", "_law_high", "_law_row"]) (sc := defScope s__law_ties) (by decide +kernel)) (fun _ _ _ _ _ => (pg_name (i := 4) (x := "_law_row") sc__law_ties.nd rfl (Or.inl rfl))) (fun _ _ _ _ _ => (pts_one (PW.pt (pw_and (pt_cmpR (inS K) (pv 2) (pv 4) (by with_unfolding_all rfl)) (pw_and1 (pt_cmpR (inS K) (pv 3) (pv 4) (by with_unfolding_all rfl))))))) (fun _ _ _ _ _ => (pv 4))) (by intro _; rfl)) (pss_one (ps_expr (pe_bmK K PySem.F.plainAttrs_list PySem.F.slot_list_append PySem.F.type_list_append mt_append (pv 1) (pa_cons (pe_tup (pa_cons (pv 2) (pa_cons (pv 3) pa_nil))) pa_nil))))
  pss_nil)))))
  (pss_one (ps_ret (pv 1))))), ?_⟩
    refine ⟨(by show 0 ≤ sizeLine; decide), fun D hD => ?_⟩
    have s0 := same_upd (o := .lst []) hD
    refine ⟨_, rfl, _, _, _, _, rfl, rfl, seqT s0 hb, rfl, n, rfl, by omega, by omega, for_range (lo := 0) (n := n.toNat) (fun i σ H1 => ∃ (ys : List V) (v2 v3 v4 : Option V), σ = [some (.ref b), some (.ref D), v2, v3, v4] ∧ Fill H D H1 ys ∧ RpAll K H1 ys (((List.range i).flatMap (tiesAt n rows)).map dTup) ∧ ys.length ≤ i * 45)
      ⟨[], none, none, none, rfl, Fill.start hD, .nil, Nat.zero_le _⟩ (fun i σ H1 hi ⟨ys, v2, v3, v4, e1, fl, r, hly⟩ => ?_) (fun σ H1 ⟨ys, v2, v3, v4, e1, fl, r, _⟩ => ?_)⟩
    · subst e1
      have ex : (0 : Int) + (i : Nat) = (i : Int) := by omega
      rw [ex]
      have st : SqT K H1 b [V.int n, V.ref L] := seqT fl.1 hb
      have en : ((n : Int) - ((i : Int) + 1)).toNat = n.toNat - (i + 1) := by omega
      refine ⟨_, rfl, _, _, rfl, rfl, _, rfl, _, _, _, _, rfl, rfl, st, rfl, _, _, rfl, ⟨by omega, by omega, by omega, by omega⟩, for_range (lo := (i : Int) + 1) (n := (n - ((i : Int) + 1)).toNat) (fun j σ H2 => ∃ (ys : List V) (v3 v4 : Option V), σ = [some (.ref b), some (.ref D), some (.int (i : Nat)), v3, v4] ∧ Fill H D H2 ys ∧ RpAll K H2 ys (((List.range i).flatMap (tiesAt n rows) ++ tiesTo rows i (i + 1 + j)).map dTup) ∧ ys.length ≤ i * 45 + j)
        ⟨ys, v3, v4, rfl, fl, by rw [Nat.add_zero, tiesTo_start, List.append_nil]; exact r, hly⟩ (fun j σ H2 hj ⟨zs, v3, v4, e2, fl2, r2, hl2⟩ => ?_) (fun σ H2 ⟨zs, v3, v4, e2, fl2, r2, hl2⟩ => ?_)⟩
      · subst e2
        have ey : (i : Int) + 1 + (j : Nat) = ((i + 1 + j : Nat) : Int) := by omega
        rw [ey]
        have hb2 := seqT fl2.1 hb
        have hL2 := seqT fl2.1 hL
        have hlx : xs.length = rows.length := by rw [hr2.length, List.length_map]
        have hs1 : (2100 : Nat) < sizeLine := by decide
        refine ⟨_, rfl, _, _, _, _, rfl, rfl, hb2, rfl, L, rfl, ⟨_, hL2⟩, fun D5 hD5 => ?_⟩
        refine lcT (K := K) (xs := xs) (fun q => decide ((i : Int) ∈ rows.getD q []) && decide (((i + 1 + j : Nat) : Int) ∈ rows.getD q [])) (fun q => dTup (rows.getD q [])) hD5 hL2 hz (fun _ _ _ => noL_dTup _) (fun q v H3 hq s3 Q1 Q2 k1 k2 => ?_) (fun ws H3 s3 hw r3 => ?_)
        · obtain ⟨t, a2, hn, rfl, ta⟩ := hr2.row hq
          have ta := ta.same (fl2.1.trans s3)
          have en2 : rows.getD q [] = t := by rw [List.getD_eq_getElem?_getD, hn]; rfl
          rw [en2] at k1 k2
          refine ⟨rfl, _, rfl, _, rfl, a2, _, rfl, .inr ta.1, rfl, flat_ints t, _, rfl, ?_⟩
          show if inV (.int (i : Int)) (t.map V.int) = true then _ else _
          rw [inV_int]
          cases c : decide ((i : Int) ∈ t) with
          | false => exact iteF (k2 (by rw [c]; rfl) _ (Same.refl _))
          | true =>
            refine iteT ⟨_, rfl, _, rfl, a2, _, rfl, .inr ta.1, rfl, flat_ints t, _, rfl, ?_⟩
            show if inV (.int ((i + 1 + j : Nat) : Int)) (t.map V.int) = true then _ else _
            rw [inV_int]
            cases c2 : decide (((i + 1 + j : Nat) : Int) ∈ t) with
            | false => exact iteF (k2 (by rw [c, c2]; rfl) _ (Same.refl _))
            | true => exact iteT ⟨_, rfl, k1 (by rw [c, c2]; rfl) _ _ (Same.refl _) ta.rp⟩
        · refine ⟨!ws.isEmpty, .inl ⟨_, SqL.of hw, rfl⟩, ?_⟩
          have ez : ((List.range xs.length).filter fun q => decide ((i : Int) ∈ rows.getD q []) && decide (((i + 1 + j : Nat) : Int) ∈ rows.getD q [])).map (fun q => dTup (rows.getD q [])) = (rows.filter fun r => decide ((i : Int) ∈ r) && decide (((i + 1 + j : Nat) : Int) ∈ r)).map dTup := by
            rw [hlx, filter_map_range (fun r : List Int => decide ((i : Int) ∈ r) && decide (((i + 1 + j : Nat) : Int) ∈ r)) (fun r => dTup r) [] rows]
          rw [ez] at r3
          have et : (!ws.isEmpty) = tiedB rows i ((i + 1 + j : Nat) : Int) := by
            have hlw := r3.length
            rw [List.length_map] at hlw
            unfold tiedB
            cases c : (rows.any fun r => decide ((i : Int) ∈ r) && decide (((i + 1 + j : Nat) : Int) ∈ r)) with
            | false =>
              have : (rows.filter fun r => decide ((i : Int) ∈ r) && decide (((i + 1 + j : Nat) : Int) ∈ r)) = [] := List.filter_eq_nil_iff.mpr fun r hr => by
                have := List.any_eq_false.mp c r hr
                exact this
              rw [this] at hlw
              have : ws = [] := List.length_eq_zero_iff.mp hlw
              rw [this]
              rfl
            | true =>
              obtain ⟨r, hr, h2⟩ := List.any_eq_true.mp c
              have : r ∈ (rows.filter fun r => decide ((i : Int) ∈ r) && decide (((i + 1 + j : Nat) : Int) ∈ r)) := List.mem_filter.mpr ⟨hr, h2⟩
              have hpos := List.length_pos_of_mem this
              cases ws with
              | nil => rw [List.length_nil] at hlw; omega
              | cons w ws => rfl
          rw [et]
          have estep := tiesTo_step rows i (i + 1 + j) (by omega)
          have f3 : Fill H D H3 zs := ⟨fl2.1.trans s3, s3 _ _ fl2.2⟩
          cases c : tiedB rows i ((i + 1 + j : Nat) : Int) with
          | false =>
            rw [c] at estep
            refine iteF ⟨zs, _, _, rfl, f3, ?_, by omega⟩
            show RpAll K H3 zs (((List.range i).flatMap (tiesAt n rows) ++ tiesTo rows i (i + 1 + j + 1)).map dTup)
            rw [estep, if_neg Bool.false_ne_true, List.append_nil]
            exact r2.same s3
          | true =>
            rw [c] at estep
            refine iteT ⟨_, rfl, .inl ⟨rfl, _, SqL.of f3.2⟩, _, rfl, _, rfl, (by show 2 ≤ sizeLine; decide), fun z hz4 => ?_⟩
            have s4 := same_upd (o := .tup [V.int (i : Int), V.int ((i + 1 + j : Nat) : Int)]) hz4
            have f4 := Fill.push (y := V.ref z) hD f3 s4
            refine ⟨D, _, _, rfl, rfl, s4 _ _ f3.2, by omega, zs ++ [.ref z], _, _, rfl, f4, ?_, by rw [List.length_append, List.length_singleton]; omega⟩
            show RpAll K _ (zs ++ [.ref z]) (((List.range i).flatMap (tiesAt n rows) ++ tiesTo rows i (i + 1 + j + 1)).map dTup)
            rw [estep, if_pos rfl, ← List.append_assoc, List.map_append]
            refine RpAll.upd (s4 _ _ f3.2) (by rw [← List.map_append]; exact noLs_rows _) (((r2.same s3).same s4).app (.cons ?_ .nil))
            exact TupI.rp (ns := [(i : Int), ((i + 1 + j : Nat) : Int)]) ⟨SqT.of upd_same, by show 2 ≤ 1000; decide⟩
      · subst e2
        refine ⟨zs, _, _, _, rfl, fl2, ?_, by omega⟩
        rw [en] at r2
        have e3 : i + 1 + (n.toNat - (i + 1)) = n.toNat := by omega
        rw [e3, tiesTo_end] at r2
        rw [List.range_succ, List.flatMap_append, List.flatMap_singleton]
        exact r2
    · subst e1
      refine ⟨_, rfl, k D H1 fl.1 hD (.lst (SqL.of fl.2) ?_ r)⟩
      rw [r.length, List.length_map]
      exact tiesL_len rows h1
end
end LK
namespace LK
open PySem PySem.Spec PyProof.Rows L2
theorem idx_get {ns : List Int} {k : Int} (h : k ∈ ns) : ns[ns.idxOf k]? = some k := by
  have hl := List.idxOf_lt_length_iff.mpr h
  rw [List.getElem?_eq_getElem hl, List.getElem_idxOf]
theorem idx_le {z : Int} : ∀ {ns : List Int} {m : Nat}, ns[m]? = some z → ns.idxOf z ≤ m
  | [], m, h => by simp at h
  | a :: l, m, h => by
    rw [List.idxOf_cons]
    cases c : (a == z) with
    | true => exact Nat.zero_le _
    | false =>
      cases m with
      | zero =>
        have : a = z := by simpa using h
        simp [this] at c
      | succ m =>
        have := idx_le (ns := l) (m := m) (by simpa using h)
        show l.idxOf z + 1 ≤ m + 1
        omega
theorem idx_before {ns : List Int} {k : Int} {m : Nat} {z : Int} (hm : m < ns.idxOf k) (hz : ns[m]? = some z) : z ≠ k := by
  intro e
  subst e
  have := idx_le hz
  omega
theorem index_use {K : PySem.W.Frag} {H : Hp} {Q : VK} {a : Addr} {ns : List Int} {k : Int} (hs : SqL K H a (ns.map V.int)) (h : k ∈ ns) (q : Q (.int (ns.idxOf k : Nat)) H) : rIndex K (.ref a) [.int k] H Q := by
  refine ⟨a, _, _, ns.idxOf k, .int k, rfl, rfl, hs, rfl, flat_ints ns, ?_, ?_, fun m z' hm hz => ?_, q⟩
  · rw [List.getElem?_map, idx_get h]
    rfl
  · unfold eqV
    simp
  · obtain ⟨x, hx, rfl⟩ := lab_at hz
    have := idx_before hm hx
    have e : eqV (.int x) (.int k) = decide (x = k) := by
      unfold eqV
      rfl
    rw [e]
    exact decide_eq_false this
def fitL (T : List (List Int)) (line : List Int) : List (List Int) := T.filter fun t => decide (line.idxOf (t.getD 1 0) < line.idxOf (t.getD 0 0))
theorem fitL_tiesL (n : Int) (rows : List (List Int)) (line : List Int) : fitL (tiesL n rows) line = fitT n rows line := rfl
def PairsIn (T : List (List Int)) (line : List Int) : Prop := ∀ t ∈ T, ∃ x y : Int, t = [x, y] ∧ x ∈ line ∧ y ∈ line
theorem ties_pairs {n : Int} {rows : List (List Int)} {line : List Int} (h : ∀ x : Int, 0 ≤ x → x < n → x ∈ line) : PairsIn (tiesL n rows) line := fun t ht => by
  obtain ⟨lo, hi, rfl, h1, h2, _⟩ := tiesL_in ht
  exact ⟨lo, hi, rfl, h _ (by omega) (by omega), h _ (by omega) h2⟩
def spByLine (K : PySem.W.Frag) : Sp := fun vs H Q _ => ∃ (u : V) (a : Addr) (T : List (List Int)) (line : List Int), vs = [u, .ref a] ∧ Rp K H u (dRowsL T) ∧ TI K H a line ∧ PairsIn T line ∧ ∀ z H', Same H H' → Rp K H' z (dRows (fitL T line)) → Q z H'
def spByLineL (K : PySem.W.Frag) : Sp := fun vs H Q _ => ∃ (u : V) (a : Addr) (T : List (List Int)) (line : List Int), vs = [u, .ref a] ∧ Rp K H u (dRowsL T) ∧ LstI K H a line ∧ PairsIn T line ∧ ∀ z H', Same H H' → Rp K H' z (dRows (fitL T line)) → Q z H'
theorem pair_at {K : PySem.W.Frag} {H : Hp} {xs : List V} {T : List (List Int)} {line : List Int} {j : Nat} {x : V} (r : RpAll K H xs (T.map dTup)) (h : xs[j]? = some x) (hp : PairsIn T line) : ∃ (a : Addr) (lo hi : Int), x = .ref a ∧ T.getD j [] = [lo, hi] ∧ TupI K H a [lo, hi] ∧ lo ∈ line ∧ hi ∈ line := by
  obtain ⟨t, a, hn, rfl, ta⟩ := r.row h
  obtain ⟨lo, hi, rfl, h1, h2⟩ := hp t (List.mem_of_getElem? hn)
  exact ⟨a, lo, hi, rfl, by rw [List.getD_eq_getElem?_getD, hn]; rfl, ta, h1, h2⟩
section
variable {P : Program} {w : World} {K : PySem.W.Frag} {mg : Str → Option Value} {base : Heap} {ad : Nat → Addr} {fd : Nat → FuncData}
theorem ok__law_by_line (T : Txt K mg ad fd) : FnOk P w K mg base CX0 1 (ad 76) (fd 76) ["_law_ties_here", "_law_line_here"] (spByLine K) := by
  refine T.F__law_by_line.ok sc__law_by_line (fun vs H Q E h => ?_) (fun cdv A outer s H vs Q E hr h => ?_)
  · obtain ⟨u, a, TT, line, rfl, _⟩ := h
    rfl
  · obtain ⟨u, a, TT, line, rfl, hu, ta, hp, k⟩ := h
    refine ⟨_, (pss_one (ps_ret (pe_callTy (tupOf K) (by rfl) T.g_tuple (by decide +kernel) (pa_cons (pe_lc (own := [("_law_tie", 2)]) (g := gName 2) rfl sc__law_by_line.nd (piL K (pv 0)) (blkOk_by (N := ["_law_ties_here", "_law_line_here", "_law_tie"]) (sc := defScope s__law_by_line) (by decide +kernel)) (fun _ _ _ _ _ => (pg_name (i := 2) (x := "_law_tie") sc__law_by_line.nd rfl (Or.inl rfl))) (fun _ _ _ _ _ => (pts_one (pt_cmpR op_lt (pe_tidx (K := K) (pv 1) (pa_cons (pe_ix (ixT K) (pv 2) pe_int (fun _ _ => rfl)) pa_nil)) (pe_tidx (K := K) (pv 1) (pa_cons (pe_ix (ixT K) (pv 2) pe_int (fun _ _ => rfl)) pa_nil)) (nomark _)))) (fun _ _ _ _ _ => (pv 2))) pa_nil)))), ?_⟩
    obtain ⟨L, xs, rfl, hL, hz, hr2⟩ := hu.lstA
    have lx : xs.length = TT.length := by rw [hr2.length, List.length_map]
    refine ⟨_, rfl, L, rfl, ⟨_, hL⟩, fun D hD => ?_⟩
    refine lcL (K := K) (xs := xs) (fun j => decide (line.idxOf ((TT.getD j []).getD 1 0) < line.idxOf ((TT.getD j []).getD 0 0))) (fun j => dTup (TT.getD j [])) hD hL hz (fun _ _ _ => noL_dTup _) (fun j x H2 hj s2 Q1 Q2 k1 k2 => ?_) (fun ys H2 s2 hy r2 => ?_)
    · obtain ⟨b, lo, hi, rfl, en, tb, m1, m2⟩ := pair_at hr2 hj hp
      have tb := tb.same s2
      have ta2 := ta.same s2
      rw [en] at k1 k2
      refine ⟨rfl, _, rfl, a, line, rfl, ta2.1.1, ta2.1.2, _, rfl, b, _, 1, _, rfl, rfl, tb.1, rfl, hi, rfl, ta2.1.1, m2, _, rfl, a, line, rfl, ta2.1.1, ta2.1.2, _, rfl, b, _, 0, _, rfl, rfl, tb.1, rfl, lo, rfl, ta2.1.1, m1, _, _, rfl, rfl, _, rfl, ?_⟩
      have ec : decide (((line.idxOf hi : Nat) : Int) < ((line.idxOf lo : Nat) : Int)) = decide (line.idxOf hi < line.idxOf lo) := decide_eq_decide.mpr (by omega)
      rw [ec]
      cases c : decide (line.idxOf hi < line.idxOf lo) with
      | false => exact iteF (k2 c _ (Same.refl _))
      | true => exact iteT ⟨_, rfl, k1 c _ _ (Same.refl _) tb.rp⟩
    · have ez : ((List.range xs.length).filter fun j => decide (line.idxOf ((TT.getD j []).getD 1 0) < line.idxOf ((TT.getD j []).getD 0 0))).map (fun j => dTup (TT.getD j [])) = (fitL TT line).map dTup := by
        rw [lx]
        exact filter_map_range (fun t : List Int => decide (line.idxOf (t.getD 1 0) < line.idxOf (t.getD 0 0))) (fun t => dTup t) [] TT
      rw [ez] at r2
      dsimp only [tNil]
      refine tupL_use (SqL.of hy) fun q H6 s6 hq => k _ _ (s2.trans s6) (.tup hq ?_ (r2.same s6))
      rw [r2.length, List.length_map]
      exact Nat.le_trans (List.length_filter_le _ _) (by omega)
theorem ok__law_by_lineL (T : Txt K mg ad fd) : FnOk P w K mg base CX0 1 (ad 76) (fd 76) ["_law_ties_here", "_law_line_here"] (spByLineL K) := by
  refine T.F__law_by_line.ok sc__law_by_line (fun vs H Q E h => ?_) (fun cdv A outer s H vs Q E hr h => ?_)
  · obtain ⟨u, a, TT, line, rfl, _⟩ := h
    rfl
  · obtain ⟨u, a, TT, line, rfl, hu, ta, hp, k⟩ := h
    refine ⟨_, (pss_one (ps_ret (pe_callTy (tupOf K) (by rfl) T.g_tuple (by decide +kernel) (pa_cons (pe_lc (own := [("_law_tie", 2)]) (g := gName 2) rfl sc__law_by_line.nd (piL K (pv 0)) (blkOk_by (N := ["_law_ties_here", "_law_line_here", "_law_tie"]) (sc := defScope s__law_by_line) (by decide +kernel)) (fun _ _ _ _ _ => (pg_name (i := 2) (x := "_law_tie") sc__law_by_line.nd rfl (Or.inl rfl))) (fun _ _ _ _ _ => (pts_one (pt_cmpR op_lt (pe_bmK K PySem.F.plainAttrs_list PySem.F.slot_list_index PySem.F.type_list_index (mtIndex K) (pv 1) (pa_cons (pe_ix (ixT K) (pv 2) pe_int (fun _ _ => rfl)) pa_nil)) (pe_bmK K PySem.F.plainAttrs_list PySem.F.slot_list_index PySem.F.type_list_index (mtIndex K) (pv 1) (pa_cons (pe_ix (ixT K) (pv 2) pe_int (fun _ _ => rfl)) pa_nil)) (nomark _)))) (fun _ _ _ _ _ => (pv 2))) pa_nil)))), ?_⟩
    obtain ⟨L, xs, rfl, hL, hz, hr2⟩ := hu.lstA
    have lx : xs.length = TT.length := by rw [hr2.length, List.length_map]
    refine ⟨_, rfl, L, rfl, ⟨_, hL⟩, fun D hD => ?_⟩
    refine lcL (K := K) (xs := xs) (fun j => decide (line.idxOf ((TT.getD j []).getD 1 0) < line.idxOf ((TT.getD j []).getD 0 0))) (fun j => dTup (TT.getD j [])) hD hL hz (fun _ _ _ => noL_dTup _) (fun j x H2 hj s2 Q1 Q2 k1 k2 => ?_) (fun ys H2 s2 hy r2 => ?_)
    · obtain ⟨b, lo, hi, rfl, en, tb, m1, m2⟩ := pair_at hr2 hj hp
      have tb := tb.same s2
      have ta2 := ta.same s2
      rw [en] at k1 k2
      refine ⟨rfl, _, rfl, .inl ⟨rfl, _, ta2.1⟩, _, rfl, b, _, 1, _, rfl, rfl, tb.1, rfl, ?_⟩
      dsimp only [tNil]
      refine index_use ta2.1 m2 ⟨_, rfl, .inl ⟨rfl, _, ta2.1⟩, _, rfl, b, _, 0, _, rfl, rfl, tb.1, rfl, ?_⟩
      dsimp only [tNil]
      refine index_use ta2.1 m1 ⟨_, _, rfl, rfl, _, rfl, ?_⟩
      have ec : decide (((line.idxOf hi : Nat) : Int) < ((line.idxOf lo : Nat) : Int)) = decide (line.idxOf hi < line.idxOf lo) := decide_eq_decide.mpr (by omega)
      rw [ec]
      cases c : decide (line.idxOf hi < line.idxOf lo) with
      | false => exact iteF (k2 c _ (Same.refl _))
      | true => exact iteT ⟨_, rfl, k1 c _ _ (Same.refl _) tb.rp⟩
    · have ez : ((List.range xs.length).filter fun j => decide (line.idxOf ((TT.getD j []).getD 1 0) < line.idxOf ((TT.getD j []).getD 0 0))).map (fun j => dTup (TT.getD j [])) = (fitL TT line).map dTup := by
        rw [lx]
        exact filter_map_range (fun t : List Int => decide (line.idxOf (t.getD 1 0) < line.idxOf (t.getD 0 0))) (fun t => dTup t) [] TT
      rw [ez] at r2
      dsimp only [tNil]
      refine tupL_use (SqL.of hy) fun q H6 s6 hq => k _ _ (s2.trans s6) (.tup hq ?_ (r2.same s6))
      rw [r2.length, List.length_map]
      exact Nat.le_trans (List.length_filter_le _ _) (by omega)
end
end LK
namespace LK
open PySem PySem.Spec PyProof.Rows L2
def Prs (T : List (List Int)) : Prop := ∀ t ∈ T, ∃ x y : Int, t = [x, y]
def behL (T S : List (List Int)) (line : List Int) : List Int := ((T.filter fun t => !decide (t ∈ S) && !decide (t.getD 0 0 ∈ line)).map fun t => t.getD 1 0) ++ ((S.filter fun t => !decide (t.getD 1 0 ∈ line)).map fun t => t.getD 0 0)
def freeI (n : Nat) (line beh : List Int) : List Int := (rgI n).filter fun x => !decide (x ∈ line) && !decide (x ∈ beh)
def leastAt (n : Nat) (T S : List (List Int)) : Nat → List Int
  | 0 => []
  | i + 1 => leastAt n T S i ++ (freeI n (leastAt n T S i) (behL T S (leastAt n T S i))).take 1
theorem leastAt_len (n : Nat) (T S : List (List Int)) : ∀ i, (leastAt n T S i).length ≤ i
  | 0 => Nat.le_refl _
  | i + 1 => by
    have := leastAt_len n T S i
    show (leastAt n T S i ++ (freeI n (leastAt n T S i) (behL T S (leastAt n T S i))).take 1).length ≤ i + 1
    rw [List.length_append, List.length_take]
    omega
theorem prs_at {K : PySem.W.Frag} {H : Hp} {xs : List V} {T : List (List Int)} {j : Nat} {x : V} (r : RpAll K H xs (T.map dTup)) (h : xs[j]? = some x) (hp : Prs T) : ∃ (a : Addr) (lo hi : Int), x = .ref a ∧ T.getD j [] = [lo, hi] ∧ TupI K H a [lo, hi] := by
  obtain ⟨t, a, hn, rfl, ta⟩ := r.row h
  obtain ⟨lo, hi, rfl⟩ := hp t (List.mem_of_getElem? hn)
  exact ⟨a, lo, hi, rfl, by rw [List.getD_eq_getElem?_getD, hn]; rfl, ta⟩
theorem notInL_use {K : PySem.W.Frag} {H : Hp} {Q : VK} {a : Addr} {ns : List Int} {x : Int} (hs : SqL K H a (ns.map V.int) ∨ SqT K H a (ns.map V.int)) (q : Q (.bl (!decide (x ∈ ns))) H) : rIn K true (.int x) (.ref a) H Q := by
  refine ⟨a, _, rfl, hs, rfl, flat_ints ns, ?_⟩
  show Q (.bl (!inV (.int x) (ns.map V.int))) H
  rw [inV_int]
  exact q
theorem cutT1 {l : List Int} : cutV (l.map V.int) none (some 1) = (l.take 1).map V.int := by
  cases l with
  | nil => rfl
  | cons x l => exact cutI_take (by decide) (by rw [List.length_cons]; omega)
def spLeast (K : PySem.W.Frag) : Sp := fun vs H Q _ => ∃ (u v : V) (n : Int) (T S : List (List Int)), vs = [.int n, u, v] ∧ Rp K H u (dRowsL T) ∧ Rp K H v (dRows S) ∧ Prs T ∧ Prs S ∧ T.length ≤ 400 ∧ S.length ≤ 400 ∧ 0 ≤ n ∧ n ≤ 45 ∧ ∀ a H', Same H H' → TI K H' a (leastAt n.toNat T S n.toNat) → Q (.ref a) H'
section
variable {P : Program} {w : World} {K : PySem.W.Frag} {mg : Str → Option Value} {base : Heap} {ad : Nat → Addr} {fd : Nat → FuncData}
theorem ok__law_least_line (T : Txt K mg ad fd) : FnOk P w K mg base CX0 1 (ad 77) (fd 77) ["_law_size", "_law_ties_here", "_law_turned"] (spLeast K) := by
  refine T.F__law_least_line.ok sc__law_least_line (fun vs H Q E h => ?_) (fun cdv A outer s H vs Q E hr h => ?_)
  · obtain ⟨u, v, n, TT, SS, rfl, _⟩ := h
    rfl
  · obtain ⟨u, v, n, TT, SS, rfl, hu, hv, pT, pS, lT, lS, h0, h1, k⟩ := h
    refine ⟨_, (pss_cons (ps_set (i := 3) sc__law_least_line.nd rfl (Or.inr rfl) (pe_tupN K pa_nil))
  (pss_cons (ps_for PassesOwn.never rfl (pi_range1 rfl T.g_range (pa_cons (pv 0) pa_nil)) (pg_name (i := 4) (x := "_law_lap") sc__law_least_line.nd rfl (Or.inl rfl))
  (pss_cons (ps_set (i := 5) sc__law_least_line.nd rfl (Or.inr rfl) (pe_lc (own := [("_law_tie", 6)]) (g := gName 6) rfl sc__law_least_line.nd (piL K (pv 1)) (blkOk_by (N := ["_law_size", "_law_ties_here", "_law_turned", "_law_line_here", "_law_lap", "_law_behind", "_law_tie", "_law_x"]) (sc := defScope s__law_least_line) (by decide +kernel)) (fun _ _ _ _ _ => (pg_name (i := 6) (x := "_law_tie") sc__law_least_line.nd rfl (Or.inl rfl))) (fun _ _ _ _ _ => (pts_one (PW.pt (pw_and (pt_cmpR (notInR K (hu65 hr)) (pv 6) (pv 2) (by with_unfolding_all rfl)) (pw_and1 (pt_cmpR (notInS K) (pe_ix (ixT K) (pv 6) pe_int (fun _ _ => rfl)) (pv 3) (by with_unfolding_all rfl))))))) (fun _ _ _ _ _ => (pe_ix (ixT K) (pv 6) pe_int (fun _ _ => rfl)))))
  (pss_cons (ps_set (i := 5) sc__law_least_line.nd rfl (Or.inr rfl) (pe_op (catL K) (pv 5) (pe_lc (own := [("_law_tie", 6)]) (g := gName 6) rfl sc__law_least_line.nd (piT K (pv 2)) (blkOk_by (N := ["_law_size", "_law_ties_here", "_law_turned", "_law_line_here", "_law_lap", "_law_behind", "_law_tie", "_law_x"]) (sc := defScope s__law_least_line) (by decide +kernel)) (fun _ _ _ _ _ => (pg_name (i := 6) (x := "_law_tie") sc__law_least_line.nd rfl (Or.inl rfl))) (fun _ _ _ _ _ => (pts_one (pt_cmpR (notInS K) (pe_ix (ixT K) (pv 6) pe_int (fun _ _ => rfl)) (pv 3) (by with_unfolding_all rfl)))) (fun _ _ _ _ _ => (pe_ix (ixT K) (pv 6) pe_int (fun _ _ => rfl))))))
  (pss_one (ps_set (i := 3) sc__law_least_line.nd rfl (Or.inr rfl) (pe_op (catN K) (pv 3) (pe_callTy (tupN K) (by rfl) T.g_tuple (by decide +kernel) (pa_cons (pe_slice (slL K) (pe_lc (own := [("_law_x", 7)]) (g := gName 7) rfl sc__law_least_line.nd (pi_range1 rfl T.g_range (pa_cons (pv 0) pa_nil)) (blkOk_by (N := ["_law_size", "_law_ties_here", "_law_turned", "_law_line_here", "_law_lap", "_law_behind", "_law_tie", "_law_x"]) (sc := defScope s__law_least_line) (by decide +kernel)) (fun _ _ _ _ _ => (pg_name (i := 7) (x := "_law_x") sc__law_least_line.nd rfl (Or.inl rfl))) (fun _ _ _ _ _ => (pts_one (PW.pt (pw_and (pt_cmpR (notInS K) (pv 7) (pv 3) (by with_unfolding_all rfl)) (pw_and1 (pt_cmpR (notInS K) (pv 7) (pv 5) (by with_unfolding_all rfl))))))) (fun _ _ _ _ _ => (pv 7))) po_none (po_some pe_int)) pa_nil))))))))
  (pss_one (ps_ret (pv 3))))), ?_⟩
    obtain ⟨L, xs, rfl, hL, hz, hr2⟩ := hu.lstA
    obtain ⟨M, zs, rfl, hM, hz2, hr3⟩ := hv.tupA
    have lx : xs.length = TT.length := by rw [hr2.length, List.length_map]
    have lz : zs.length = SS.length := by rw [hr3.length, List.length_map]
    refine ⟨(by show 0 ≤ sizeLine; decide), fun a0 H0 s0 n0 t0 => ?_⟩
    refine ⟨_, rfl, n, rfl, by omega, by omega, for_range (lo := 0) (n := n.toNat) (fun i σ H1 => ∃ (a : Addr) (v4 v5 v6 v7 : Option V), σ = [some (.int n), some (.ref L), some (.ref M), some (.ref a), v4, v5, v6, v7] ∧ Same H H1 ∧ TI K H1 a (leastAt n.toNat TT SS i))
      ⟨a0, none, none, none, none, rfl, s0, ⟨t0, Nat.zero_le _⟩⟩ (fun i σ H1 hi ⟨a, v4, v5, v6, v7, e1, s1, ta⟩ => ?_) (fun σ H1 ⟨a, v4, v5, v6, v7, e1, s1, ta⟩ => ?_)⟩
    · subst e1
      have hll := leastAt_len n.toNat TT SS i
      generalize eline : leastAt n.toNat TT SS i = line at *
      -- behind, first
      refine ⟨_, rfl, L, rfl, ⟨_, s1.seq hL⟩, fun D hD => ?_⟩
      refine lcL (K := K) (xs := xs) (fun j => !decide (TT.getD j [] ∈ SS) && !decide ((TT.getD j []).getD 0 0 ∈ line)) (fun j => .int ((TT.getD j []).getD 1 0)) hD (s1.seq hL) hz (fun _ _ _ => rfl) (fun j x H2 hj s2 Q1 Q2 k1 k2 => ?_) (fun ys H2 s2 hy r2 => ?_)
      · obtain ⟨b, lo, hi', rfl, en, tb⟩ := prs_at hr2 hj pT
        have tb := tb.same (s1.trans s2)
        rw [en] at k1 k2
        refine ⟨rfl, _, rfl, _, rfl, [lo, hi'], SS, tb.rp, hv.same (s1.trans s2), _, rfl, ?_⟩
        show if (!decide ([lo, hi'] ∈ SS)) = true then _ else _
        cases c : decide ([lo, hi'] ∈ SS) with
        | true => exact iteF (k2 (by rw [c]; rfl) _ (Same.refl _))
        | false =>
          refine iteT ⟨_, rfl, b, _, 0, _, rfl, rfl, tb.1, rfl, _, rfl, ?_⟩
          refine notInL_use (.inr (ta.same s2).1.1) ⟨_, rfl, ?_⟩
          cases c2 : decide (lo ∈ line) with
          | true => exact iteF (k2 (by rw [c]; show (!decide (lo ∈ line)) = false; rw [c2]; rfl) _ (Same.refl _))
          | false => exact iteT ⟨_, rfl, b, _, 1, _, rfl, rfl, tb.1, rfl, k1 (by rw [c]; show (!decide (lo ∈ line)) = true; rw [c2]; rfl) _ _ (Same.refl _) (.int _)⟩
      have ez : ((List.range xs.length).filter fun j => !decide (TT.getD j [] ∈ SS) && !decide ((TT.getD j []).getD 0 0 ∈ line)).map (fun j => PyData.int ((TT.getD j []).getD 1 0)) = ((TT.filter fun t => !decide (t ∈ SS) && !decide (t.getD 0 0 ∈ line)).map fun t => t.getD 1 0).map PyData.int := by
        rw [lx, List.map_map]
        exact filter_map_range (fun t : List Int => !decide (t ∈ SS) && !decide (t.getD 0 0 ∈ line)) (fun t => PyData.int (t.getD 1 0)) [] TT
      rw [ez] at r2
      have := r2.ofInts
      subst this
      generalize eb1 : ((TT.filter fun t => !decide (t ∈ SS) && !decide (t.getD 0 0 ∈ line)).map fun t => t.getD 1 0) = b1 at *
      -- behind, second
      refine ⟨_, rfl, _, rfl, M, rfl, ⟨_, seqT (s1.trans s2) hM⟩, fun D2 hD2 => ?_⟩
      refine lcT (K := K) (xs := zs) (fun j => !decide ((SS.getD j []).getD 1 0 ∈ line)) (fun j => .int ((SS.getD j []).getD 0 0)) hD2 (seqT (s1.trans s2) hM) hz2 (fun _ _ _ => rfl) (fun j x H3 hj s3 Q1 Q2 k1 k2 => ?_) (fun ys H3 s3 hy3 r3 => ?_)
      · obtain ⟨b, lo, hi', rfl, en, tb⟩ := prs_at hr3 hj pS
        have tb := tb.same (s1.trans (s2.trans s3))
        rw [en] at k1 k2
        refine ⟨rfl, _, rfl, b, _, 1, _, rfl, rfl, tb.1, rfl, _, rfl, ?_⟩
        refine notInL_use (.inr (ta.same (s2.trans s3)).1.1) ⟨_, rfl, ?_⟩
        cases c2 : decide (hi' ∈ line) with
        | true => exact iteF (k2 (by show (!decide (hi' ∈ line)) = false; rw [c2]; rfl) _ (Same.refl _))
        | false => exact iteT ⟨_, rfl, b, _, 0, _, rfl, rfl, tb.1, rfl, k1 (by show (!decide (hi' ∈ line)) = true; rw [c2]; rfl) _ _ (Same.refl _) (.int _)⟩
      have ez : ((List.range zs.length).filter fun j => !decide ((SS.getD j []).getD 1 0 ∈ line)).map (fun j => PyData.int ((SS.getD j []).getD 0 0)) = ((SS.filter fun t => !decide (t.getD 1 0 ∈ line)).map fun t => t.getD 0 0).map PyData.int := by
        rw [lz, List.map_map]
        exact filter_map_range (fun t : List Int => !decide (t.getD 1 0 ∈ line)) (fun t => PyData.int (t.getD 0 0)) [] SS
      rw [ez] at r3
      have := r3.ofInts
      subst this
      have hb1 : b1.length ≤ 400 := by
        rw [← eb1, List.length_map]
        exact Nat.le_trans (List.length_filter_le _ _) lT
      generalize eb2 : ((SS.filter fun t => !decide (t.getD 1 0 ∈ line)).map fun t => t.getD 0 0) = b2 at *
      have hb2 : b2.length ≤ 400 := by
        rw [← eb2, List.length_map]
        exact Nat.le_trans (List.length_filter_le _ _) lS
      refine ⟨D, D2, _, _, rfl, rfl, SqL.of (s3 _ _ hy), SqL.of hy3, by rw [List.length_map, List.length_map]; omega, fun q hq => ?_⟩
      rw [← List.map_append]
      have s4 := same_upd (o := .lst ((b1 ++ b2).map V.int)) hq
      have ebe : behL TT SS line = b1 ++ b2 := by
        unfold behL
        rw [eb1, eb2]
      have s14 := s1.trans (s2.trans (s3.trans s4))
      have ta4 := ta.same (s2.trans (s3.trans s4))
      have hq4 : (upd H3 q (HO.lst ((b1 ++ b2).map V.int))) q = some (.lst ((b1 ++ b2).map V.int)) := upd_same
      generalize upd H3 q (HO.lst ((b1 ++ b2).map V.int)) = H4 at *
      -- line + ..
      refine ⟨_, rfl, _, rfl, n, rfl, by omega, by omega, fun D3 hD3 => ?_⟩
      refine lcR (K := K) (lo := 0) (n := n.toNat) (fun j => !decide (((j : Nat) : Int) ∈ line) && !decide (((j : Nat) : Int) ∈ b1 ++ b2)) (fun j => .int ((j : Nat) : Int)) hD3 (by omega) (fun _ _ _ => rfl) (fun j H5 hj s5 Q1 Q2 k1 k2 => ?_) (fun ys H5 s5 hy5 r5 => ?_)
      · rw [Int.zero_add]
        refine ⟨rfl, _, rfl, _, rfl, ?_⟩
        refine notInL_use (.inr (ta4.same s5).1.1) ⟨_, rfl, ?_⟩
        cases c2 : decide (((j : Nat) : Int) ∈ line) with
        | true => exact iteF (k2 (by rw [c2]; rfl) _ (Same.refl _))
        | false =>
          refine iteT ⟨_, rfl, _, rfl, ?_⟩
          refine notInL_use (.inl (SqL.of (s5 _ _ hq4))) ⟨_, rfl, ?_⟩
          cases c3 : decide (((j : Nat) : Int) ∈ b1 ++ b2) with
          | true => exact iteF (k2 (by rw [c2, c3]; rfl) _ (Same.refl _))
          | false => exact iteT ⟨_, rfl, k1 (by rw [c2, c3]; rfl) _ _ (Same.refl _) (.int _)⟩
      have ez : ((List.range n.toNat).filter fun j => !decide (((j : Nat) : Int) ∈ line) && !decide (((j : Nat) : Int) ∈ b1 ++ b2)).map (fun j => PyData.int ((j : Nat) : Int)) = (freeI n.toNat line (b1 ++ b2)).map PyData.int := by
        unfold freeI rgI
        rw [List.filter_map, List.map_map]
        rfl
      rw [ez] at r5
      have := r5.ofInts
      subst this
      dsimp only [tNoPart, tNil]
      refine ⟨1, rfl, D3, _, rfl, SqL.of hy5, fun q2 hq2 => ?_⟩
      rw [cutT1]
      have s6 := same_upd (o := .lst (((freeI n.toNat line (b1 ++ b2)).take 1).map V.int)) hq2
      refine ⟨q2, _, rfl, SqL.of upd_same, fun q3 o hq3 ho => ?_⟩
      have s7 := same_upd (o := .frz o (.tup (((freeI n.toNat line (b1 ++ b2)).take 1).map V.int))) hq3
      have t7 : TN K (upd (upd H5 q2 (.lst (((freeI n.toNat line (b1 ++ b2)).take 1).map V.int))) q3 (.frz o (.tup (((freeI n.toNat line (b1 ++ b2)).take 1).map V.int)))) q3 (((freeI n.toNat line (b1 ++ b2)).take 1).map V.int) := tn_new ho
      refine ⟨a, q3, _, _, rfl, rfl, (ta4.same (s5.trans (s6.trans s7))).1, t7, by rw [List.length_map, List.length_map, List.length_take]; omega, fun q4 H8 s8 t8 => ?_⟩
      rw [← List.map_append] at t8
      refine ⟨q4, _, _, _, _, rfl, s14.trans (s5.trans (s6.trans (s7.trans s8))), ?_, ?_⟩
      · show TN K H8 q4 ((leastAt n.toNat TT SS i ++ (freeI n.toNat (leastAt n.toNat TT SS i) (behL TT SS (leastAt n.toNat TT SS i))).take 1).map V.int)
        rw [eline, ebe]
        exact t8
      · have := leastAt_len n.toNat TT SS (i + 1)
        omega
    · subst e1
      exact ⟨_, rfl, k a H1 s1 ta⟩
end
end LK
namespace LK
open PySem PySem.Spec PyProof.Rows L2
/-! what lines turn -/
def Ln (n : Int) (line : List Int) : Prop := line.Perm (rgI n.toNat) ∧ 0 ≤ n
variable {n : Int} {rows : List (List Int)} {line : List Int}
theorem Ln.nd (h : Ln n line) : line.Nodup := h.1.nodup_iff.mpr (rgI_nodup _)
theorem Ln.len (h : Ln n line) : (line.length : Int) = n := by
  have := h.1.length_eq
  rw [rgI_length] at this
  have := h.2
  omega
theorem Ln.mem (h : Ln n line) {x : Int} : x ∈ line ↔ 0 ≤ x ∧ x < n := by
  rw [h.1.mem_iff, rgI_mem]
  have := h.2
  omega
theorem ln_rg (h : 0 ≤ n) : Ln n (rgI n.toNat) := ⟨.refl _, h⟩
theorem ln_of {l : List Int} (h0 : 0 ≤ n) (nd : l.Nodup) (hm : ∀ x, x ∈ l ↔ 0 ≤ x ∧ x < n) : Ln n l :=
  ⟨(List.perm_ext_iff_of_nodup nd (rgI_nodup _)).mpr fun x => by rw [hm, rgI_mem]; omega, h0⟩
def Lex (s t : List Int) : Prop := HT.lexLt s t = true
theorem lex_iff {a b c d : Int} : Lex [a, b] [c, d] ↔ a < c ∨ (a = c ∧ b < d) := by
  unfold Lex
  rw [lex_pair]
  by_cases h : a = c
  · rw [if_pos h]
    by_cases h2 : b = d
    · rw [if_pos h2]
      simp only [Bool.false_eq_true, false_iff]
      omega
    · rw [if_neg h2, decide_eq_true_eq]
      omega
  · rw [if_neg h, decide_eq_true_eq]
    omega
theorem lex_ext {T1 T2 : List (List Int)} (h1 : T1.Pairwise Lex) (h2 : T2.Pairwise Lex) (p1 : Prs T1) (p2 : Prs T2) (h : ∀ t, t ∈ T1 ↔ t ∈ T2) : T1 = T2 := by
  have nd : ∀ {T : List (List Int)}, T.Pairwise Lex → Prs T → T.Nodup := fun {T} hp pp => by
    refine List.Pairwise.imp_of_mem (fun {a b} ha hb hab => ?_) hp
    obtain ⟨x, y, rfl⟩ := pp a ha
    rintro rfl
    have := lex_iff.mp hab
    omega
  have pm := (List.perm_ext_iff_of_nodup (nd h1 p1) (nd h2 p2)).mpr h
  refine List.Perm.eq_of_pairwise (le := Lex) (fun a b ha hb hab hba => ?_) h1 h2 pm
  obtain ⟨x, y, rfl⟩ := p1 a ha
  obtain ⟨z, u, rfl⟩ := p2 b hb
  have h3 := lex_iff.mp hab
  have h4 := lex_iff.mp hba
  omega
theorem tiesL_pw (n : Int) (rows : List (List Int)) : (tiesL n rows).Pairwise Lex := by
  unfold tiesL
  refine List.pairwise_flatMap.mpr ⟨fun x _ => ?_, ?_⟩
  · unfold tiesAt
    refine List.Pairwise.map _ (R := fun a b => a < b) (fun a b h => lex_iff.mpr (.inr ⟨rfl, by omega⟩)) ?_
    exact List.Pairwise.filter _ (List.Pairwise.filter _ List.pairwise_lt_range)
  · refine List.pairwise_lt_range.imp fun {a b} hab s hs t ht => ?_
    unfold tiesAt at hs ht
    obtain ⟨y, _, rfl⟩ := List.mem_map.mp hs
    obtain ⟨z, _, rfl⟩ := List.mem_map.mp ht
    exact lex_iff.mpr (.inl (by omega))
theorem tiesL_prs (n : Int) (rows : List (List Int)) : Prs (tiesL n rows) := fun t ht => by
  obtain ⟨lo, hi, rfl, _⟩ := tiesL_in ht
  exact ⟨_, _, rfl⟩
theorem fit_pw (n : Int) (rows : List (List Int)) (line : List Int) : (fitT n rows line).Pairwise Lex := List.Pairwise.filter _ (tiesL_pw n rows)
theorem fit_prs (n : Int) (rows : List (List Int)) (line : List Int) : Prs (fitT n rows line) := fun t ht => tiesL_prs n rows t (List.mem_filter.mp ht).1
theorem tiesL_mem {t : List Int} : t ∈ tiesL n rows ↔ ∃ lo hi : Nat, t = [(lo : Int), (hi : Int)] ∧ lo < hi ∧ (hi : Int) < n ∧ tiedB rows lo hi = true :=
  ⟨tiesL_in, fun ⟨lo, hi, e, h1, h2, h3⟩ => by rw [e]; exact in_tiesL h1 h2 h3⟩
theorem fit_mem {t : List Int} : t ∈ fitT n rows line ↔ ∃ lo hi : Nat, t = [(lo : Int), (hi : Int)] ∧ lo < hi ∧ (hi : Int) < n ∧ tiedB rows lo hi = true ∧ line.idxOf (hi : Int) < line.idxOf (lo : Int) := by
  unfold fitT
  rw [List.mem_filter, tiesL_mem]
  constructor
  · rintro ⟨⟨lo, hi, rfl, h1, h2, h3⟩, h4⟩
    exact ⟨lo, hi, rfl, h1, h2, h3, of_decide_eq_true h4⟩
  · rintro ⟨lo, hi, rfl, h1, h2, h3, h4⟩
    exact ⟨⟨lo, hi, rfl, h1, h2, h3⟩, decide_eq_true h4⟩
theorem fit_pair {lo hi : Nat} : [(lo : Int), (hi : Int)] ∈ fitT n rows line ↔ lo < hi ∧ (hi : Int) < n ∧ tiedB rows lo hi = true ∧ line.idxOf (hi : Int) < line.idxOf (lo : Int) := by
  rw [fit_mem]
  constructor
  · rintro ⟨a, b, e, h⟩
    injection e with e1 e2
    injection e2 with e2 _
    have e1 : lo = a := by omega
    have e2 : hi = b := by omega
    subst e1 e2
    exact h
  · intro h
    exact ⟨lo, hi, rfl, h⟩
theorem idx_ne (h : Ln n line) {x y : Nat} (hx : (x : Int) < n) (hy : (y : Int) < n) (e : x ≠ y) : line.idxOf (x : Int) ≠ line.idxOf (y : Int) := fun z => by
  have := idxOf_inj (h.mem.mpr ⟨by omega, hx⟩) (h.mem.mpr ⟨by omega, hy⟩) z
  omega
/-- which way a tie leads -/
theorem led_fit (h : Ln n line) {x y : Nat} (hx : (x : Int) < n) (hy : (y : Int) < n) : ledB rows (fitT n rows line) x y = (decide (x ≠ y) && tiedB rows x y && decide (line.idxOf (x : Int) < line.idxOf (y : Int))) := by
  unfold ledB
  by_cases e : x = y
  · subst e
    simp
  have e1 : decide ((x : Int) ≠ (y : Int)) = true := decide_eq_true (by omega)
  have e2 : decide (x ≠ y) = true := decide_eq_true e
  rw [e1, e2]
  cases ht : tiedB rows x y with
  | false => rfl
  | true =>
    rw [Bool.and_self, Bool.true_and, Bool.true_and]
    have hne := idx_ne h hx hy e
    by_cases c : (x : Int) < (y : Int)
    · rw [if_pos c]
      by_cases c2 : line.idxOf (x : Int) < line.idxOf (y : Int)
      · rw [decide_eq_true c2, decide_eq_false fun z => by have := (fit_pair.mp z).2.2.2; omega]
        rfl
      · rw [decide_eq_false c2, decide_eq_true (fit_pair.mpr ⟨by omega, hy, ht, by omega⟩)]
        rfl
    · rw [if_neg c]
      have ht2 : tiedB rows y x = true := by rw [tied_comm]; exact ht
      by_cases c2 : line.idxOf (x : Int) < line.idxOf (y : Int)
      · rw [decide_eq_true c2, decide_eq_true (fit_pair.mpr ⟨by omega, hx, ht2, c2⟩)]
      · rw [decide_eq_false c2, decide_eq_false fun z => by have := (fit_pair.mp z).2.2.2; omega]
def natL (line : List Int) : List Nat := line.map Int.toNat
theorem led_self (rows T : List (List Int)) (x : Int) : ledB rows T x x = false := by
  unfold ledB
  simp
theorem idxOf_get {l : List Int} (nd : l.Nodup) {i : Nat} (h : i < l.length) : l.idxOf l[i] = i := by
  have h1 := List.idxOf_lt_length_iff.mpr (List.getElem_mem h)
  exact (List.getElem_inj nd).mp (List.getElem_idxOf h1)
theorem fit_acyc (hin : RowsIn n rows) (h : Ln n line) : Acyc (ledM n rows (fitT n rows line)) := by
  refine acyc_of_line (natL line) (fun x hx => ?_) ?_ (fun x => ?_)
  · rw [ledM_length] at hx
    have := h.2
    exact List.mem_map.mpr ⟨(x : Int), h.mem.mpr ⟨by omega, by omega⟩, by omega⟩
  · unfold natL
    rw [List.pairwise_map]
    refine List.pairwise_iff_getElem.mpr fun i j hi hj hij => ?_
    have hi' := h.mem.mp (List.getElem_mem hi)
    have hj' := h.mem.mp (List.getElem_mem hj)
    rw [edge_led hin]
    have hled := led_fit (rows := rows) h (x := line[j].toNat) (y := line[i].toNat) (by omega) (by omega)
    rw [hled]
    have ei : ((line[i].toNat : Nat) : Int) = line[i] := by omega
    have ej : ((line[j].toNat : Nat) : Int) = line[j] := by omega
    rw [ei, ej, idxOf_get h.nd hi, idxOf_get h.nd hj, decide_eq_false (show ¬ j < i by omega), Bool.and_false, Bool.and_false]
  · rw [edge_led hin, led_self, Bool.and_false]
theorem isTie_of {lo hi : Nat} (h1 : lo < hi) (h2 : (hi : Int) < n) (h3 : tiedB rows lo hi = true) : isTie n rows (dTup [(lo : Int), (hi : Int)]) = true := by
  unfold isTie isLot
  rw [dInts_tup]
  have a1 : areBelow n (dTup [(lo : Int), (hi : Int)]) = true := by
    show ([(lo : Int), (hi : Int)].map PyData.int).all (isBelow n) = true
    simp [isBelow]
    omega
  have a2 : rising [(lo : Int), (hi : Int)] = true := by
    simp [rising]
    omega
  rw [a1, a2]
  exact h3
theorem rising_of_pw : ∀ {T : List (List Int)}, T.Pairwise Lex → risingT T = true
  | [], _ => rfl
  | [_], _ => rfl
  | s :: t :: T, h => by
    have ih := rising_of_pw (T := t :: T) (List.pairwise_cons.mp h).2
    have h1 := (List.pairwise_cons.mp h).1 t (by simp)
    unfold risingT at ih ⊢
    have e : (s :: t :: T).length - 1 = ((t :: T).length - 1) + 1 := by simp
    rw [e, range_succ_map, List.all_cons, Bool.and_eq_true]
    exact ⟨h1, ih⟩
theorem toT_rows (T : List (List Int)) : toT (dRows T) = T := by
  show (T.map dTup).map dInts = T
  rw [List.map_map]
  have : ∀ t ∈ T, (dInts ∘ dTup) t = id t := fun t _ => dInts_tup t
  rw [List.map_congr_left this, List.map_id]
theorem isTies_of {T : List (List Int)} (hp : T.Pairwise Lex) (hm : ∀ t ∈ T, t ∈ tiesL n rows) : isTies n rows (dRows T) = true := by
  show ((T.map dTup).all (isTie n rows) && risingT ((T.map dTup).map dInts)) = true
  have e : (T.map dTup).map dInts = T := toT_rows T
  rw [e, rising_of_pw hp, Bool.and_true, List.all_map]
  refine List.all_eq_true.mpr fun t ht => ?_
  obtain ⟨lo, hi, rfl, h1, h2, h3⟩ := tiesL_in (hm t ht)
  exact isTie_of h1 h2 h3
theorem sorting_of_acyc {T : List (List Int)} (hp : T.Pairwise Lex) (hm : ∀ t ∈ T, t ∈ tiesL n rows) (ha : Acyc (ledM n rows T)) : isSorting n rows (dRows T) = true := by
  unfold isSorting
  rw [isTies_of hp hm, toT_rows, acycB_iff.mpr ha]
  rfl
theorem fit_sorting (hin : RowsIn n rows) (h : Ln n line) : isSorting n rows (dRows (fitT n rows line)) = true :=
  sorting_of_acyc (fit_pw _ _ _) (fun t ht => (List.mem_filter.mp ht).1) (fit_acyc hin h)
/-- lines that put tied things alike -/
def Agree (n : Int) (rows : List (List Int)) (l1 l2 : List Int) : Prop := ∀ x y : Nat, (x : Int) < n → (y : Int) < n → x ≠ y → tiedB rows x y = true → (l1.idxOf (x : Int) < l1.idxOf (y : Int) ↔ l2.idxOf (x : Int) < l2.idxOf (y : Int))
theorem fit_agree {l1 l2 : List Int} (h : Agree n rows l1 l2) : fitT n rows l1 = fitT n rows l2 := by
  refine lex_ext (fit_pw _ _ _) (fit_pw _ _ _) (fit_prs _ _ _) (fit_prs _ _ _) fun t => ?_
  rw [fit_mem, fit_mem]
  constructor
  · rintro ⟨lo, hi, rfl, h1, h2, h3, h4⟩
    exact ⟨lo, hi, rfl, h1, h2, h3, (h hi lo h2 (by omega) (by omega) (by rw [tied_comm]; exact h3)).mp h4⟩
  · rintro ⟨lo, hi, rfl, h1, h2, h3, h4⟩
    exact ⟨lo, hi, rfl, h1, h2, h3, (h hi lo h2 (by omega) (by omega) (by rw [tied_comm]; exact h3)).mpr h4⟩
theorem lineT_ln (hn : 0 ≤ n) {T : List (List Int)} (ha : Acyc (ledM n rows T)) : Ln n (lineT n rows T) := by
  obtain ⟨h1, h2, h3⟩ := lineT_spec hn ha
  exact ln_of hn h1 h3
theorem natI_gt {l : List Nat} {i : Nat} (h : i < l.length) : (natI l)[i]'(by rw [natI_length]; exact h) = ((l[i] : Nat) : Int) := by
  unfold natI
  simp
theorem lineT_agree (hin : RowsIn n rows) (h : Ln n line) : Agree n rows (lineT n rows (fitT n rows line)) line := by
  have ha := fit_acyc hin h
  have hl := lineT_ln h.2 ha
  obtain ⟨_, _, hp⟩ := lineN_spec ha
  -- no thing leads to an earlier one
  have key : ∀ x y : Nat, (x : Int) < n → (y : Int) < n → x ≠ y → tiedB rows x y = true → (lineT n rows (fitT n rows line)).idxOf (x : Int) < (lineT n rows (fitT n rows line)).idxOf (y : Int) → line.idxOf (x : Int) < line.idxOf (y : Int) := by
    intro x y hx hy e ht hlt
    have mx := hl.mem.mpr ⟨(by omega : (0 : Int) ≤ (x : Int)), hx⟩
    have my := hl.mem.mpr ⟨(by omega : (0 : Int) ≤ (y : Int)), hy⟩
    have ly := List.idxOf_lt_length_iff.mpr my
    have lx := List.idxOf_lt_length_iff.mpr mx
    have gx := List.getElem_idxOf lx
    have gy := List.getElem_idxOf ly
    have hb : edgeB (ledM n rows (fitT n rows line)) y x = false := by
      generalize hi : (lineT n rows (fitT n rows line)).idxOf (x : Int) = i at *
      generalize hj : (lineT n rows (fitT n rows line)).idxOf (y : Int) = j at *
      have l1 : i < (lineN (ledM n rows (fitT n rows line))).length := by
        have := lx
        unfold lineT at this
        rwa [natI_length] at this
      have l2 : j < (lineN (ledM n rows (fitT n rows line))).length := by
        have := ly
        unfold lineT at this
        rwa [natI_length] at this
      have hpp := List.pairwise_iff_getElem.mp hp i j l1 l2 hlt
      have e1 : (lineN (ledM n rows (fitT n rows line)))[i] = x := by
        have := (natI_gt (l := lineN (ledM n rows (fitT n rows line))) l1).symm.trans gx
        omega
      have e2 : (lineN (ledM n rows (fitT n rows line)))[j] = y := by
        have := (natI_gt (l := lineN (ledM n rows (fitT n rows line))) l2).symm.trans gy
        omega
      rw [e1, e2] at hpp
      exact hpp
    rw [edge_led hin, decide_eq_true hy, Bool.true_and, led_fit h hy hx, decide_eq_true (Ne.symm e), tied_comm, ht, Bool.true_and, Bool.true_and, decide_eq_false_iff_not] at hb
    have := idx_ne h hx hy e
    omega
  intro x y hx hy e ht
  refine ⟨key x y hx hy e ht, fun h2 => ?_⟩
  have h3 := idx_ne hl hx hy e
  apply Classical.byContradiction
  intro c
  have := key y x hy hx (Ne.symm e) (by rw [tied_comm]; exact ht) (by omega)
  omega
theorem fit_lineT (hin : RowsIn n rows) (h : Ln n line) : fitT n rows (lineT n rows (fitT n rows line)) = fitT n rows line := fit_agree (lineT_agree hin h)
end LK
namespace LK
open PySem PySem.Spec PyProof.Rows L2
/-! over, open ties, a thing first or last -/
theorem idx_pwl {l : List Int} (nd : l.Nodup) : l.Pairwise fun a b => l.idxOf a < l.idxOf b :=
  List.pairwise_iff_getElem.mpr fun i j hi hj hij => by rw [idxOf_get nd hi, idxOf_get nd hj]; exact hij
theorem ord_iff {l : List Int} {f : Int → Nat} (pw : l.Pairwise fun a b => f a < f b) {y z : Int} (hy : y ∈ l) (hz : z ∈ l) : l.idxOf y < l.idxOf z ↔ f y < f z := by
  have key : ∀ {y z : Int}, y ∈ l → z ∈ l → l.idxOf y < l.idxOf z → f y < f z := fun {y z} hy hz h => by
    have ly := List.idxOf_lt_length_iff.mpr hy
    have lz := List.idxOf_lt_length_iff.mpr hz
    have := List.pairwise_iff_getElem.mp pw _ _ ly lz h
    rwa [List.getElem_idxOf, List.getElem_idxOf] at this
  refine ⟨key hy hz, fun h => ?_⟩
  apply Classical.byContradiction
  intro c
  rcases Nat.lt_or_eq_of_le (Nat.le_of_not_lt c) with h2 | h2
  · have := key hz hy h2
    omega
  · have := idxOf_inj hz hy h2
    subst this
    omega
theorem sub_idx {l' l : List Int} (s : l'.Sublist l) (nd : l.Nodup) {y z : Int} (hy : y ∈ l') (hz : z ∈ l') : l'.idxOf y < l'.idxOf z ↔ l.idxOf y < l.idxOf z := ord_iff ((idx_pwl nd).sublist s) hy hz
theorem idx_map {g : Int → Int} {x : Int} : ∀ {l : List Int}, (∀ a ∈ l, g a = g x → a = x) → (l.map g).idxOf (g x) = l.idxOf x
  | [], _ => rfl
  | a :: l, h => by
    rw [List.map_cons, List.idxOf_cons, List.idxOf_cons, idx_map fun b hb => h b (by simp [hb])]
    by_cases e : a = x
    · subst e
      simp
    · have : ¬ g a = g x := fun z => e (h a (by simp) z)
      have h1 : (g a == g x) = false := by simpa using this
      have h2 : (a == x) = false := by simpa using e
      rw [h1, h2]
theorem idx_rev {l : List Int} (nd : l.Nodup) {x : Int} (h : x ∈ l) : l.reverse.idxOf x = l.length - 1 - l.idxOf x := by
  have hl := List.idxOf_lt_length_iff.mpr h
  have nd2 : l.reverse.Nodup := (List.reverse_perm l).nodup_iff.mpr nd
  have hb : l.length - 1 - l.idxOf x < l.reverse.length := by rw [List.length_reverse]; omega
  have e : l.reverse[l.length - 1 - l.idxOf x]'hb = x := by
    rw [List.getElem_reverse]
    have : l.length - 1 - (l.length - 1 - l.idxOf x) = l.idxOf x := by omega
    have h2 := List.getElem_idxOf hl
    simp only [this]
    exact h2
  have := idxOf_get nd2 hb
  rw [e] at this
  exact this
variable {n : Int} {rows : List (List Int)} {line later : List Int}
theorem Ln.rev (h : Ln n line) : Ln n line.reverse := ⟨(List.reverse_perm line).trans h.1, h.2⟩
theorem rev_lt (h : Ln n line) {x y : Nat} (hx : (x : Int) < n) (hy : (y : Int) < n) : line.reverse.idxOf (x : Int) < line.reverse.idxOf (y : Int) ↔ line.idxOf (y : Int) < line.idxOf (x : Int) := by
  have mx := h.mem.mpr ⟨(by omega : (0 : Int) ≤ (x : Int)), hx⟩
  have my := h.mem.mpr ⟨(by omega : (0 : Int) ≤ (y : Int)), hy⟩
  rw [idx_rev h.nd mx, idx_rev h.nd my]
  have := List.idxOf_lt_length_iff.mpr mx
  have := List.idxOf_lt_length_iff.mpr my
  omega
def compl (n : Int) (rows T : List (List Int)) : List (List Int) := (tiesL n rows).filter fun t => !decide (t ∈ T)
theorem compl_mem {T : List (List Int)} {t : List Int} : t ∈ compl n rows T ↔ t ∈ tiesL n rows ∧ t ∉ T := by
  unfold compl
  rw [List.mem_filter]
  simp
theorem compl_fit (h : Ln n line) : compl n rows (fitT n rows line) = fitT n rows line.reverse := by
  refine lex_ext (List.Pairwise.filter _ (tiesL_pw n rows)) (fit_pw _ _ _) (fun t ht => tiesL_prs n rows t (List.mem_filter.mp ht).1) (fit_prs _ _ _) fun t => ?_
  rw [compl_mem, tiesL_mem]
  constructor
  · rintro ⟨⟨lo, hi, rfl, h1, h2, h3⟩, h4⟩
    refine fit_mem.mpr ⟨lo, hi, rfl, h1, h2, h3, (rev_lt h h2 (by omega)).mpr ?_⟩
    have := idx_ne h (x := lo) (y := hi) (by omega) h2 (by omega)
    apply Classical.byContradiction
    intro c
    exact h4 (fit_pair.mpr ⟨h1, h2, h3, by omega⟩)
  · intro hz
    obtain ⟨lo, hi, rfl, h1, h2, h3, h4⟩ := fit_mem.mp hz
    have h4 := (rev_lt h h2 (by omega)).mp h4
    refine ⟨⟨lo, hi, rfl, h1, h2, h3⟩, fun z => ?_⟩
    have := (fit_pair.mp z).2.2.2
    omega
theorem compl_compl (h : Ln n line) : compl n rows (compl n rows (fitT n rows line)) = fitT n rows line := by
  rw [compl_fit h, compl_fit h.rev, List.reverse_reverse]
theorem edge_rev (hin : RowsIn n rows) (h : Ln n line) (x y : Nat) : edgeB (ledM n rows (fitT n rows line.reverse)) x y = edgeB (ledM n rows (fitT n rows line)) y x := by
  rw [edge_led hin, edge_led hin]
  by_cases hx : (x : Int) < n
  · by_cases hy : (y : Int) < n
    · rw [decide_eq_true hx, decide_eq_true hy, Bool.true_and, Bool.true_and, led_fit h.rev hx hy, led_fit h hy hx, tied_comm]
      have e1 : decide (x ≠ y) = decide (y ≠ x) := decide_eq_decide.mpr ⟨Ne.symm, Ne.symm⟩
      have e2 : decide (line.reverse.idxOf (x : Int) < line.reverse.idxOf (y : Int)) = decide (line.idxOf (y : Int) < line.idxOf (x : Int)) := decide_eq_decide.mpr (rev_lt h hx hy)
      rw [e1, e2]
    · rw [decide_eq_false hy, Bool.false_and]
      cases c : ledB rows (fitT n rows line.reverse) x y with
      | false => simp
      | true => exact absurd (led_in hin c).1.2 hy
  · rw [decide_eq_false hx, Bool.false_and]
    cases c : ledB rows (fitT n rows line) y x with
    | false => simp
    | true => exact absurd (led_in hin c).1.2 hx
theorem edge_cut {ms : List Nat} {a b : Nat} (ha : a < ms.length) (h : edgeB ms a b = true) (x y : Nat) : edgeB (cutM ms a b) x y = (edgeB ms x y && !(decide (x = a) && decide (y = b))) := by
  unfold edgeB cutM at *
  by_cases e : x = a
  · subst e
    have : (ms.set x (ms.getD x 0 ^^^ 2 ^ b)).getD x 0 = ms.getD x 0 ^^^ 2 ^ b := by
      rw [List.getD_eq_getElem?_getD, List.getElem?_set_self ha]
      rfl
    rw [this, xor_pow]
    by_cases e2 : y = b
    · subst e2
      rw [h]
      simp
    · have : ¬ b = y := fun z => e2 z.symm
      simp [e2, this]
  · have : (ms.set a (ms.getD a 0 ^^^ 2 ^ b)).getD x 0 = ms.getD x 0 := by
      rw [List.getD_eq_getElem?_getD, List.getElem?_set_ne (Ne.symm e), ← List.getD_eq_getElem?_getD]
    rw [this]
    simp [e]
theorem reach_front {ms : List Nat} {a b c : Nat} (e : Edge ms a b) (h : Reach ms b c) : Reach ms a c := by
  induction h with
  | here => exact .step .here e
  | step _ he ih => exact .step ih he
theorem reach_rev {m1 m2 : List Nat} (h : ∀ x y, Edge m1 x y → Edge m2 y x) {a b : Nat} (r : Reach m1 a b) : Reach m2 b a := by
  induction r with
  | here => exact .here
  | step _ he ih => exact reach_front (h _ _ he) ih
theorem opn_rev (hin : RowsIn n rows) (h : Ln n line) {lo hi : Nat} (h1 : lo < hi) (h2 : (hi : Int) < n) (h3 : tiedB rows lo hi = true) : opnB (ledM n rows (fitT n rows line.reverse)) lo hi = opnB (ledM n rows (fitT n rows line)) lo hi := by
  have hne := idx_ne h (x := lo) (y := hi) (by omega) h2 (by omega)
  have E1 : edgeB (ledM n rows (fitT n rows line)) lo hi = decide (line.idxOf (lo : Int) < line.idxOf (hi : Int)) := by
    rw [edge_led hin, decide_eq_true (show (lo : Int) < n by omega), Bool.true_and, led_fit h (by omega) h2, h3, decide_eq_true (show lo ≠ hi by omega)]
    rfl
  have E2 : edgeB (ledM n rows (fitT n rows line)) hi lo = decide (line.idxOf (hi : Int) < line.idxOf (lo : Int)) := by
    rw [edge_led hin, decide_eq_true h2, Bool.true_and, led_fit h h2 (by omega), tied_comm, h3, decide_eq_true (show hi ≠ lo by omega)]
    rfl
  have L1 : lo < (ledM n rows (fitT n rows line)).length := by rw [ledM_length]; omega
  have L2' : hi < (ledM n rows (fitT n rows line)).length := by rw [ledM_length]; omega
  have R1 : lo < (ledM n rows (fitT n rows line.reverse)).length := by rw [ledM_length]; omega
  have R2 : hi < (ledM n rows (fitT n rows line.reverse)).length := by rw [ledM_length]; omega
  have key : ∀ {a b : Nat}, a < (ledM n rows (fitT n rows line)).length → b < (ledM n rows (fitT n rows line.reverse)).length → edgeB (ledM n rows (fitT n rows line)) a b = true → (Reach (cutM (ledM n rows (fitT n rows line.reverse)) b a) b a ↔ Reach (cutM (ledM n rows (fitT n rows line)) a b) a b) := by
    intro a b ha hb he
    have he2 : edgeB (ledM n rows (fitT n rows line.reverse)) b a = true := by rw [edge_rev hin h]; exact he
    have X : ∀ x y, edgeB (cutM (ledM n rows (fitT n rows line.reverse)) b a) x y = edgeB (cutM (ledM n rows (fitT n rows line)) a b) y x := fun x y => by
      rw [edge_cut hb he2, edge_cut ha he, edge_rev hin h, Bool.and_comm (decide (x = b))]
    exact ⟨reach_rev fun x y e => by show edgeB _ y x = true; rw [← X]; exact e, reach_rev fun x y e => by show edgeB _ y x = true; rw [X]; exact e⟩
  have O1 : Opn (ledM n rows (fitT n rows line)) lo hi ↔ if edgeB (ledM n rows (fitT n rows line)) lo hi = true then ¬ Reach (cutM (ledM n rows (fitT n rows line)) lo hi) lo hi else ¬ Reach (cutM (ledM n rows (fitT n rows line)) hi lo) hi lo := Iff.rfl
  have O2 : Opn (ledM n rows (fitT n rows line.reverse)) lo hi ↔ if edgeB (ledM n rows (fitT n rows line.reverse)) lo hi = true then ¬ Reach (cutM (ledM n rows (fitT n rows line.reverse)) lo hi) lo hi else ¬ Reach (cutM (ledM n rows (fitT n rows line.reverse)) hi lo) hi lo := Iff.rfl
  have fin : Opn (ledM n rows (fitT n rows line.reverse)) lo hi ↔ Opn (ledM n rows (fitT n rows line)) lo hi := by
    rw [O1, O2, edge_rev hin h, E1, E2]
    by_cases c : line.idxOf (lo : Int) < line.idxOf (hi : Int)
    · rw [decide_eq_true c, if_pos rfl, decide_eq_false (show ¬ line.idxOf (hi : Int) < line.idxOf (lo : Int) by omega), if_neg Bool.false_ne_true]
      exact not_congr (key L1 R2 (by rw [E1]; exact decide_eq_true c))
    · have c2 : line.idxOf (hi : Int) < line.idxOf (lo : Int) := by omega
      rw [decide_eq_false c, if_neg Bool.false_ne_true, decide_eq_true c2, if_pos rfl]
      exact not_congr (key L2' R1 (by rw [E2]; exact decide_eq_true c2))
  cases e : opnB (ledM n rows (fitT n rows line)) lo hi with
  | true => exact opnB_iff.mpr (fin.mpr (opnB_iff.mp e))
  | false => exact opnB_not fun z => by rw [opnB_iff.mpr (fin.mp z)] at e; cases e
theorem open_rev (hin : RowsIn n rows) (h : Ln n line) : openL n rows (fitT n rows line.reverse) = openL n rows (fitT n rows line) := by
  unfold openL
  refine List.filter_congr fun t ht => ?_
  obtain ⟨lo, hi, rfl, h1, h2, h3⟩ := tiesL_in ht
  exact opn_rev hin h h1 h2 h3
theorem falls_over (hin : RowsIn n rows) (h : Ln n line) : fallsX n rows (dRows (compl n rows (fitT n rows line))) = risesX n rows (dRows (fitT n rows line)) := by
  unfold fallsX risesX
  rw [compl_fit h, fit_sorting hin h, fit_sorting hin h.rev, toT_rows, toT_rows, open_rev hin h, ← compl_fit h]
  simp only [if_true]
  congr 2
  refine List.filter_congr fun t ht => ?_
  have : t ∈ tiesL n rows := (List.mem_filter.mp ht).1
  rw [← decide_not]
  exact decide_eq_decide.mpr (by rw [compl_mem]; exact ⟨fun z => z.2, fun z => ⟨this, z⟩⟩)
theorem rises_over (hin : RowsIn n rows) (h : Ln n line) : risesX n rows (dRows (compl n rows (fitT n rows line))) = fallsX n rows (dRows (fitT n rows line)) := by
  unfold fallsX risesX
  rw [compl_fit h, fit_sorting hin h, fit_sorting hin h.rev, toT_rows, toT_rows, open_rev hin h, ← compl_fit h]
  simp only [if_true]
  congr 2
  refine List.filter_congr fun t ht => ?_
  have : t ∈ tiesL n rows := (List.mem_filter.mp ht).1
  rw [← decide_not]
  exact decide_eq_decide.mpr (by rw [compl_mem]; exact ⟨fun z => Classical.byContradiction fun c => z ⟨this, c⟩, fun z c => c.2 z⟩)
theorem over_eq (hin : RowsIn n rows) (h : Ln n line) : turnedOverX n rows (dRows (fitT n rows line)) = .ok (dRows (compl n rows (fitT n rows line))) := by
  unfold turnedOverX
  rw [fit_sorting hin h, toT_rows]
  rfl
theorem over_over (hin : RowsIn n rows) (h : Ln n line) : turnedOverX n rows (dRows (compl n rows (fitT n rows line))) = .ok (dRows (fitT n rows line)) := by
  rw [compl_fit h, over_eq hin h.rev, compl_fit h.rev, List.reverse_reverse]
theorem beneath_eq (hin : RowsIn n rows) (h : Ln n line) (h2 : Ln n later) : beneathX n rows (dRows (fitT n rows line)) (dRows (fitT n rows later)) = .ok (.bool (areTurned (fitT n rows line) (fitT n rows later))) := by
  unfold beneathX
  rw [fit_sorting hin h, fit_sorting hin h2, toT_rows, toT_rows]
  rfl
theorem beneath_over (hin : RowsIn n rows) (h : Ln n line) (h2 : Ln n later) : beneathX n rows (dRows (compl n rows (fitT n rows later))) (dRows (compl n rows (fitT n rows line))) = .ok (.bool (areTurned (fitT n rows line) (fitT n rows later))) := by
  have e : areTurned (compl n rows (fitT n rows later)) (compl n rows (fitT n rows line)) = areTurned (fitT n rows line) (fitT n rows later) := by
    unfold areTurned
    rw [Bool.eq_iff_iff, List.all_eq_true, List.all_eq_true]
    constructor
    · intro z t ht
      refine decide_eq_true (Classical.byContradiction fun c => ?_)
      have h3 : t ∈ tiesL n rows := (List.mem_filter.mp ht).1
      have := of_decide_eq_true (z t (compl_mem.mpr ⟨h3, c⟩))
      exact (compl_mem.mp this).2 ht
    · intro z t ht
      obtain ⟨h3, h4⟩ := compl_mem.mp ht
      exact decide_eq_true (compl_mem.mpr ⟨h3, fun c => h4 (of_decide_eq_true (z t c))⟩)
  rw [compl_fit h, compl_fit h2, beneath_eq hin h2.rev h.rev, ← compl_fit h, ← compl_fit h2, e]
/-- a thing ahead of all that is tied to it -/
def frontL (x : Int) (line : List Int) : List Int := x :: line.filter fun y => decide (y ≠ x)
theorem front_ln (h : Ln n line) {x : Int} (h0 : 0 ≤ x) (h1 : x < n) : Ln n (frontL x line) := by
  refine ln_of h.2 ?_ fun y => ?_
  · unfold frontL
    rw [List.nodup_cons]
    exact ⟨fun z => by simpa using (List.mem_filter.mp z).2, h.nd.sublist List.filter_sublist⟩
  · unfold frontL
    rw [List.mem_cons, List.mem_filter, h.mem]
    constructor
    · rintro (rfl | ⟨z, _⟩)
      · exact ⟨h0, h1⟩
      · exact z
    · intro z
      by_cases e : y = x
      · exact .inl e
      · exact .inr ⟨z, decide_eq_true e⟩
theorem front_lt (h : Ln n line) {x : Int} {a b : Nat} (ha : (a : Int) < n) (hb : (b : Int) < n) (e : a ≠ b) : (frontL x line).idxOf (a : Int) < (frontL x line).idxOf (b : Int) ↔ (a : Int) = x ∨ ((b : Int) ≠ x ∧ line.idxOf (a : Int) < line.idxOf (b : Int)) := by
  unfold frontL
  rw [List.idxOf_cons, List.idxOf_cons]
  by_cases ea : (a : Int) = x
  · have eb : ¬ (b : Int) = x := by omega
    have h1 : (x == (a : Int)) = true := by simp [ea]
    have h2 : (x == (b : Int)) = false := by simp; omega
    rw [h1, h2]
    simp [ea]
  · have h1 : (x == (a : Int)) = false := by simp; omega
    by_cases eb : (b : Int) = x
    · have h2 : (x == (b : Int)) = true := by simp [eb]
      rw [h1, h2]
      simp [ea, eb]
    · have h2 : (x == (b : Int)) = false := by simp; omega
      rw [h1, h2]
      have := sub_idx (l' := line.filter fun y => decide (y ≠ x)) List.filter_sublist h.nd (y := (a : Int)) (z := (b : Int)) (List.mem_filter.mpr ⟨h.mem.mpr ⟨by omega, ha⟩, decide_eq_true ea⟩) (List.mem_filter.mpr ⟨h.mem.mpr ⟨by omega, hb⟩, decide_eq_true eb⟩)
      simp only [cond_false, Nat.add_lt_add_iff_right, ea, false_or]
      exact ⟨fun z => ⟨eb, this.mp z⟩, fun z => this.mpr z.2⟩
theorem put_fit (h : Ln n line) {x : Int} : putT n rows (fitT n rows line) x 1 = fitT n rows (frontL x line) := by
  refine lex_ext (List.Pairwise.filter _ (tiesL_pw n rows)) (fit_pw _ _ _) (fun t ht => tiesL_prs n rows t (List.mem_filter.mp ht).1) (fit_prs _ _ _) fun t => ?_
  unfold putT
  rw [List.mem_filter]
  constructor
  · rintro ⟨h1, h2⟩
    obtain ⟨lo, hi, rfl, h3, h4, h5⟩ := tiesL_in h1
    refine fit_pair.mpr ⟨h3, h4, h5, (front_lt h h4 (by omega) (by omega)).mpr ?_⟩
    by_cases c : x ∈ [(lo : Int), (hi : Int)]
    · rw [decide_eq_true c, if_pos rfl] at h2
      exact .inl (of_decide_eq_true h2)
    · rw [decide_eq_false c, if_neg Bool.false_ne_true] at h2
      simp only [List.mem_cons, List.not_mem_nil, or_false, not_or] at c
      exact .inr ⟨fun z => c.1 z.symm, (fit_pair.mp (of_decide_eq_true h2)).2.2.2⟩
  · intro h1
    obtain ⟨lo, hi, rfl, h3, h4, h5, h6⟩ := fit_mem.mp h1
    refine ⟨in_tiesL h3 h4 h5, ?_⟩
    have h7 := (front_lt h h4 (by omega) (by omega)).mp h6
    by_cases c : x ∈ [(lo : Int), (hi : Int)]
    · rw [decide_eq_true c, if_pos rfl]
      refine decide_eq_true ?_
      show (hi : Int) = x
      rcases h7 with z | ⟨z, _⟩
      · exact z
      · simp only [List.mem_cons, List.not_mem_nil, or_false] at c
        rcases c with c | c
        · exact absurd c.symm z
        · exact c.symm
    · rw [decide_eq_false c, if_neg Bool.false_ne_true]
      simp only [List.mem_cons, List.not_mem_nil, or_false, not_or] at c
      refine decide_eq_true (fit_pair.mpr ⟨h3, h4, h5, ?_⟩)
      rcases h7 with z | ⟨_, z⟩
      · exact absurd z.symm c.2
      · exact z
theorem put_over (h : Ln n line) {x : Int} : compl n rows (putT n rows (fitT n rows line) x 1) = putT n rows (compl n rows (fitT n rows line)) x 0 := by
  unfold compl
  conv => rhs; unfold putT
  refine List.filter_congr fun t ht => ?_
  obtain ⟨lo, hi, rfl, h3, h4, h5⟩ := tiesL_in ht
  have hc : [(lo : Int), (hi : Int)] ∈ (tiesL n rows).filter (fun t => !decide (t ∈ fitT n rows line)) ↔ [(lo : Int), (hi : Int)] ∉ fitT n rows line := by
    rw [List.mem_filter]
    simp [ht]
  by_cases c : x ∈ [(lo : Int), (hi : Int)]
  · have hm : [(lo : Int), (hi : Int)] ∈ putT n rows (fitT n rows line) x 1 ↔ (hi : Int) = x := by
      unfold putT
      rw [List.mem_filter]
      show _ ∧ (if decide (x ∈ [(lo : Int), (hi : Int)]) = true then decide ((hi : Int) = x) else decide ([(lo : Int), (hi : Int)] ∈ fitT n rows line)) = true ↔ _
      rw [decide_eq_true c, if_pos rfl, decide_eq_true_eq]
      exact ⟨fun z => z.2, fun z => ⟨ht, z⟩⟩
    rw [decide_eq_decide.mpr hm, decide_eq_true c, if_pos rfl]
    simp only [List.mem_cons, List.not_mem_nil, or_false] at c
    show (!decide ((hi : Int) = x)) = decide ((lo : Int) = x)
    by_cases e : (hi : Int) = x
    · rw [decide_eq_true e, decide_eq_false (show ¬ (lo : Int) = x by omega)]
      rfl
    · have e2 : (lo : Int) = x := by
        rcases c with c | c
        · exact c.symm
        · exact absurd c.symm e
      rw [decide_eq_false e, decide_eq_true e2]
      rfl
  · have hm : [(lo : Int), (hi : Int)] ∈ putT n rows (fitT n rows line) x 1 ↔ [(lo : Int), (hi : Int)] ∈ fitT n rows line := by
      unfold putT
      rw [List.mem_filter]
      show _ ∧ (if decide (x ∈ [(lo : Int), (hi : Int)]) = true then decide ((hi : Int) = x) else decide ([(lo : Int), (hi : Int)] ∈ fitT n rows line)) = true ↔ _
      rw [decide_eq_false c, if_neg Bool.false_ne_true, decide_eq_true_eq]
      exact ⟨fun z => z.2, fun z => ⟨ht, z⟩⟩
    rw [decide_eq_decide.mpr hm, decide_eq_false c, if_neg Bool.false_ne_true, decide_eq_decide.mpr hc, ← decide_not]
theorem put_eq (hin : RowsIn n rows) (h : Ln n line) (side : Nat) {x : Int} (h0 : 0 ≤ x) (h1 : x < n) : putX side n rows (dRows (fitT n rows line)) (.int x) = .ok (dRows (putT n rows (fitT n rows line) x side)) := by
  unfold putX
  have : isBelow n (.int x) = true := by simp [isBelow]; omega
  rw [fit_sorting hin h, this, toT_rows]
  rfl
theorem put_told (hin : RowsIn n rows) (h : Ln n line) {x : Int} (h0 : 0 ≤ x) (h1 : x < n) : turnedOverX n rows (dRows (putT n rows (fitT n rows line) x 1)) = .ok (dRows (putT n rows (compl n rows (fitT n rows line)) x 0)) := by
  rw [← put_over h, put_fit h, over_eq hin (front_ln h h0 h1)]
end LK
namespace LK
open PySem PySem.Spec PyProof.Rows L2
/-! the law's own least line is the program's -/
variable {n : Int} {rows : List (List Int)} {S : List (List Int)}
theorem tiesIn_prs (h : TiesIn n rows S) : Prs S := fun t ht => by
  obtain ⟨lo, hi, rfl, _⟩ := h.1 t ht
  exact ⟨_, _, rfl⟩
theorem beh_mem (hin : RowsIn n rows) (hS : TiesIn n rows S) {line : List Int} {x : Nat} (hx : (x : Int) < n) : (x : Int) ∈ behL (tiesL n rows) S line ↔ ∃ o : Nat, (o : Int) < n ∧ (o : Int) ∉ line ∧ ledB rows S o x = true := by
  unfold behL
  rw [List.mem_append, List.mem_map, List.mem_map]
  constructor
  · rintro (⟨t, ht, e⟩ | ⟨t, ht, e⟩)
    · obtain ⟨h1, h2⟩ := List.mem_filter.mp ht
      obtain ⟨lo, hi, rfl, h3, h4, h5⟩ := tiesL_in h1
      have e : (hi : Int) = (x : Int) := e
      have e : hi = x := by omega
      subst e
      rw [Bool.and_eq_true, Bool.not_eq_true', Bool.not_eq_true', decide_eq_false_iff_not, decide_eq_false_iff_not] at h2
      refine ⟨lo, by omega, h2.2, ?_⟩
      unfold ledB
      rw [decide_eq_true (show (lo : Int) ≠ (hi : Int) by omega), h5, if_pos (by omega), decide_eq_false h2.1]
      rfl
    · obtain ⟨h1, h2⟩ := List.mem_filter.mp ht
      obtain ⟨lo, hi, rfl, h3, h4, h5⟩ := hS.1 t h1
      have e : (lo : Int) = (x : Int) := e
      have e : lo = x := by omega
      subst e
      rw [Bool.not_eq_true', decide_eq_false_iff_not] at h2
      refine ⟨hi, h4, h2, ?_⟩
      unfold ledB
      rw [decide_eq_true (show (hi : Int) ≠ (lo : Int) by omega), tied_comm, h5, if_neg (by omega), decide_eq_true h1]
      rfl
  · rintro ⟨o, h1, h2, h3⟩
    unfold ledB at h3
    rw [Bool.and_eq_true, Bool.and_eq_true, decide_eq_true_eq] at h3
    obtain ⟨⟨h4, h5⟩, h6⟩ := h3
    by_cases c : (o : Int) < (x : Int)
    · rw [if_pos c, Bool.not_eq_true', decide_eq_false_iff_not] at h6
      refine .inl ⟨[(o : Int), (x : Int)], List.mem_filter.mpr ⟨in_tiesL (by omega) hx h5, ?_⟩, rfl⟩
      rw [Bool.and_eq_true, Bool.not_eq_true', Bool.not_eq_true', decide_eq_false_iff_not, decide_eq_false_iff_not]
      exact ⟨h6, h2⟩
    · rw [if_neg c, decide_eq_true_eq] at h6
      refine .inr ⟨[(x : Int), (o : Int)], List.mem_filter.mpr ⟨h6, ?_⟩, rfl⟩
      rw [Bool.not_eq_true', decide_eq_false_iff_not]
      exact h2
def leftL (N : Nat) (line : List Int) : List Nat := (List.range N).filter fun x => !decide ((x : Int) ∈ line)
theorem free_eq (h0 : 0 ≤ n) (hin : RowsIn n rows) (hS : TiesIn n rows S) (line : List Int) : freeI n.toNat line (behL (tiesL n rows) S line) = natI (freeL (edgeB (ledM n rows S)) (leftL n.toNat line)) := by
  unfold freeI rgI natI freeL leftL
  rw [List.filter_map, List.filter_filter]
  congr 1
  refine List.filter_congr fun x hx => ?_
  have hx := List.mem_range.mp hx
  show (!decide ((x : Int) ∈ line) && !decide ((x : Int) ∈ behL (tiesL n rows) S line)) = _
  rw [Bool.and_comm]
  congr 1
  congr 1
  rw [Bool.eq_iff_iff, decide_eq_true_eq, beh_mem hin hS (by omega), List.any_eq_true]
  constructor
  · rintro ⟨o, h1, h2, h3⟩
    refine ⟨o, List.mem_filter.mpr ⟨List.mem_range.mpr (by omega), by rw [decide_eq_false h2]; rfl⟩, ?_⟩
    rw [edge_led hin, decide_eq_true h1, h3]
    rfl
  · rintro ⟨o, h1, h2⟩
    obtain ⟨h3, h4⟩ := List.mem_filter.mp h1
    have := List.mem_range.mp h3
    rw [Bool.not_eq_true', decide_eq_false_iff_not] at h4
    rw [edge_led hin, Bool.and_eq_true] at h2
    exact ⟨o, by omega, h4, h2.2⟩
theorem lineGo_stuck {E : Nat → Nat → Bool} {left : List Nat} (h : freeL E left = []) : ∀ k, lineGo E k left = []
  | 0 => rfl
  | k + 1 => by
    show (match freeL E left with | [] => [] | f :: _ => f :: lineGo E k (left.filter fun x => decide (x ≠ f))) = []
    rw [h]
theorem natI_app (a b : List Nat) : natI (a ++ b) = natI a ++ natI b := List.map_append
theorem least_go (h0 : 0 ≤ n) (hin : RowsIn n rows) (hS : TiesIn n rows S) : ∀ i, i ≤ n.toNat → leastAt n.toNat (tiesL n rows) S i ++ natI (lineGo (edgeB (ledM n rows S)) (n.toNat - i) (leftL n.toNat (leastAt n.toNat (tiesL n rows) S i))) = lineT n rows S
  | 0, _ => by
    unfold lineT lineN
    rw [ledM_length]
    show [] ++ natI (lineGo _ (n.toNat - 0) (leftL n.toNat [])) = _
    have : leftL n.toNat [] = List.range n.toNat := by
      unfold leftL
      exact List.filter_eq_self.mpr fun x _ => by simp
    rw [this]
    rfl
  | i + 1, hi => by
    have ih := least_go h0 hin hS i (by omega)
    have hf := free_eq h0 hin hS (leastAt n.toNat (tiesL n rows) S i)
    have e1 : leastAt n.toNat (tiesL n rows) S (i + 1) = leastAt n.toNat (tiesL n rows) S i ++ (freeI n.toNat (leastAt n.toNat (tiesL n rows) S i) (behL (tiesL n rows) S (leastAt n.toNat (tiesL n rows) S i))).take 1 := rfl
    rw [e1, hf]
    generalize leastAt n.toNat (tiesL n rows) S i = l at *
    have e2 : n.toNat - i = (n.toNat - (i + 1)) + 1 := by omega
    rw [e2] at ih
    cases c : freeL (edgeB (ledM n rows S)) (leftL n.toNat l) with
    | nil =>
      rw [lineGo_stuck c] at ih
      have e3 : l ++ (natI ([] : List Nat)).take 1 = l := by
        show l ++ [] = l
        rw [List.append_nil]
      rw [e3, lineGo_stuck c]
      exact ih
    | cons f fs =>
      rw [lineGo_cons c] at ih
      have e3 : l ++ (natI (f :: fs)).take 1 = l ++ [(f : Int)] := rfl
      have e4 : leftL n.toNat (l ++ [(f : Int)]) = (leftL n.toNat l).filter fun x => decide (x ≠ f) := by
        unfold leftL
        rw [List.filter_filter]
        refine List.filter_congr fun x _ => ?_
        by_cases c1 : (x : Int) ∈ l
        · simp [c1]
        · by_cases c2 : x = f
          · subst c2
            simp
          · have : ¬ (x : Int) = (f : Int) := by omega
            simp [c1, c2, this]
      rw [e3, e4, ← ih, List.append_assoc]
      rfl
theorem least_eq (h0 : 0 ≤ n) (hin : RowsIn n rows) (hS : TiesIn n rows S) : leastAt n.toNat (tiesL n rows) S n.toNat = lineT n rows S := by
  have := least_go h0 hin hS n.toNat (Nat.le_refl _)
  rw [Nat.sub_self] at this
  have e : natI (lineGo (edgeB (ledM n rows S)) 0 (leftL n.toNat (leastAt n.toNat (tiesL n rows) S n.toNat))) = [] := rfl
  rw [e, List.append_nil] at this
  exact this
/-- where the least line is too short there is a round -/
theorem short_not (h0 : 0 ≤ n) (hin : RowsIn n rows) (h : ((leastAt n.toNat (tiesL n rows) S n.toNat).length : Int) < n) : isSorting n rows (dRows S) = false := by
  cases e : isSorting n rows (dRows S) with
  | false => rfl
  | true =>
    obtain ⟨_, hT, hA⟩ := isSorting_in e
    rw [toT_rows] at hT hA
    have := (lineT_spec h0 hA).2.1
    rw [← least_eq h0 hin hT] at this
    omega
theorem fit_tiesIn {line : List Int} : TiesIn n rows (fitT n rows line) := by
  refine ⟨fun t ht => tiesL_in (List.mem_filter.mp ht).1, ?_⟩
  refine List.Pairwise.imp_of_mem (fun {a b} ha hb hab => ?_) (fit_pw n rows line)
  obtain ⟨x, y, rfl⟩ := fit_prs n rows line a ha
  rintro rfl
  have := lex_iff.mp hab
  omega
theorem least_fit {line : List Int} (hin : RowsIn n rows) (h : Ln n line) : leastAt n.toNat (tiesL n rows) (fitT n rows line) n.toNat = lineT n rows (fitT n rows line) := least_eq h.2 hin fit_tiesIn
theorem lineOf_fit {line : List Int} (hin : RowsIn n rows) (h : Ln n line) : lineOfX n rows (dRows (fitT n rows line)) = .ok (dTup (lineT n rows (fitT n rows line))) := by
  unfold lineOfX
  rw [fit_sorting hin h, toT_rows]
  rfl
theorem ln_lineT {line : List Int} (hin : RowsIn n rows) (h : Ln n line) : Ln n (lineT n rows (fitT n rows line)) := lineT_ln h.2 (fit_acyc hin h)
end LK
namespace LK
open PySem PySem.Spec PyProof.Rows L2
theorem inL_use {K : PySem.W.Frag} {H : Hp} {Q : VK} {a : Addr} {ns : List Int} {x : Int} (hs : SqL K H a (ns.map V.int) ∨ SqT K H a (ns.map V.int)) (q : Q (.bl (decide (x ∈ ns))) H) : rIn K false (.int x) (.ref a) H Q := by
  refine ⟨a, _, rfl, hs, rfl, flat_ints ns, ?_⟩
  show Q (.bl (inV (.int x) (ns.map V.int))) H
  rw [inV_int]
  exact q
def spKeptB (K : PySem.W.Frag) : Sp := fun vs H Q _ => ∃ (v : V) (a : Addr) (n : Int) (rows : List (List Int)) (lot : List Int), vs = [v, .ref a] ∧ Rp K H v (bookD n rows) ∧ TI K H a lot ∧ rows.length ≤ 400 ∧ ∀ z H', Same H H' → Rp K H' z (bookD lot.length (keptRows lot rows)) → Q z H'
def spNamed (K : PySem.W.Frag) : Sp := fun vs H Q _ => ∃ (v : V) (a : Addr) (n : Int) (rows : List (List Int)) (names : List Int), vs = [v, .ref a] ∧ Rp K H v (bookD n rows) ∧ (SqL K H a (names.map V.int) ∨ SqT K H a (names.map V.int)) ∧ (∀ r ∈ rows, ∀ x ∈ r, 0 ≤ x ∧ x < (names.length : Int)) ∧ ∀ z H', Same H H' → Rp K H' z (bookD n (relab names rows)) → Q z H'
section
variable {P : Program} {w : World} {K : PySem.W.Frag} {mg : Str → Option Value} {base : Heap} {ad : Nat → Addr} {fd : Nat → FuncData}
theorem ok__law_kept_book (T : Txt K mg ad fd) : FnOk P w K mg base CX0 1 (ad 78) (fd 78) ["_law_web", "_law_lot_here"] (spKeptB K) := by
  refine T.F__law_kept_book.ok sc__law_kept_book (fun vs H Q E h => ?_) (fun cdv A outer s H vs Q E hr h => ?_)
  · obtain ⟨v, a, n, rows, lot, rfl, _⟩ := h
    rfl
  · obtain ⟨v, a, n, rows, lot, rfl, hv, ta, hl, k⟩ := h
    refine ⟨_, (pss_cons (ps_set (i := 2) sc__law_kept_book.nd rfl (Or.inl rfl) (pe_lst pa_nil))
  (pss_cons (ps_for PassesOwn.never rfl (piT K (pe_ix (ixT K) (pv 0) pe_int (fun _ _ => rfl))) (pg_name (i := 3) (x := "_law_row") sc__law_kept_book.nd rfl (Or.inl rfl))
  (pss_cons (ps_set (i := 4) sc__law_kept_book.nd rfl (Or.inl rfl) (pe_callTy (tupOf K) (by rfl) T.g_tuple (by decide +kernel) (pa_cons (pe_lc (own := [("_law_x", 5)]) (g := gName 5) rfl sc__law_kept_book.nd (piT K (pv 3)) (blkOk_by (N := ["_law_web", "_law_lot_here", "_law_lists", "_law_row", "_law_part", "_law_x"]) (sc := defScope s__law_kept_book) (by decide +kernel)) (fun _ _ _ _ _ => (pg_name (i := 5) (x := "_law_x") sc__law_kept_book.nd rfl (Or.inl rfl))) (fun _ _ _ _ _ => (pts_one (pt_cmpR (inS K) (pv 5) (pv 1) (by with_unfolding_all rfl)))) (fun _ _ _ _ _ => (pe_tidx (K := K) (pv 1) (pa_cons (pv 5) pa_nil)))) pa_nil)))
  (pss_one (ps_if (pt_cmpR op_gt (pe_callB (lenS K) (by rfl) T.g_len (by decide +kernel) (pa_cons (pv 4) pa_nil)) pe_int (nomark _)) (pss_one (ps_expr (pe_bmK K PySem.F.plainAttrs_list PySem.F.slot_list_append PySem.F.type_list_append mt_append (pv 2) (pa_cons (pv 4) pa_nil))))
  pss_nil))))
  (pss_one (ps_ret (pe_tup (pa_cons (pe_callB (lenS K) (by rfl) T.g_len (by decide +kernel) (pa_cons (pv 1) pa_nil)) (pa_cons (pe_callTy (tupOf K) (by rfl) T.g_tuple (by decide +kernel) (pa_cons (pv 2) pa_nil)) pa_nil))))))), ?_⟩
    obtain ⟨b, L, xs, rfl, hb, hL, hz, hr2⟩ := rp_book hv
    have lx : xs.length = rows.length := by rw [hr2.length, List.length_map]
    refine ⟨(by show 0 ≤ sizeLine; decide), fun D hD => ?_⟩
    have s0 := same_upd (o := .lst []) hD
    refine ⟨_, rfl, b, _, 1, _, rfl, rfl, seqT s0 hb, rfl, L, rfl, ⟨_, seqT s0 hL⟩, for_tup (K := K) (a := L) (xs := xs) (fun i σ H1 => ∃ (ys : List V) (v3 v4 v5 : Option V), σ = [some (.ref b), some (.ref a), some (.ref D), v3, v4, v5] ∧ Fill H D H1 ys ∧ RpAll K H1 ys ((keptRows lot (rows.take i)).map dTup) ∧ ys.length ≤ i)
      ⟨[], none, none, none, rfl, Fill.start hD, .nil, Nat.le_refl _⟩ (fun i σ H1 _ ⟨_, _, _, _, _, fl, _⟩ => seqT fl.1 hL) (fun i x σ H1 hi ⟨ys, v3, v4, v5, e1, fl, ry, hly⟩ => ?_) (fun σ H1 ⟨ys, v3, v4, v5, e1, fl, ry, hly⟩ => ?_)⟩
    · subst e1
      obtain ⟨ns, a2, hn2, rfl, t⟩ := hr2.row hi
      have t := t.same fl.1
      have ta1 := ta.same fl.1
      have hil := (List.getElem?_eq_some_iff.mp hn2).1
      have estep : keptRows lot (rows.take (i + 1)) = keptRows lot (rows.take i) ++ if 2 ≤ (keptRow lot ns).length then [keptRow lot ns] else [] := by
        unfold keptRows
        rw [List.take_succ, hn2, List.map_append, List.filter_append]
        congr 1
        show ([keptRow lot ns].filter fun r => decide (2 ≤ r.length)) = _
        by_cases c : 2 ≤ (keptRow lot ns).length
        · rw [if_pos c]
          simp [c]
        · rw [if_neg c]
          simp [c]
      refine ⟨_, rfl, a2, rfl, ⟨_, t.1⟩, fun D2 hD2 => ?_⟩
      refine lcT (K := K) (xs := ns.map V.int) (fun j => decide (ns.getD j 0 ∈ lot)) (fun j => .int ((lot.idxOf (ns.getD j 0) : Nat) : Int)) hD2 t.1 (by rw [List.length_map]; exact t.2) (fun _ _ _ => rfl) (fun j x H2 hj s2 Q1 Q2 k1 k2 => ?_) (fun zs H2 s2 hz3 r2 => ?_)
      · obtain ⟨z, hz4, rfl⟩ := lab_at hj
        have eg := getD_at hz4
        rw [eg] at k1 k2
        refine ⟨rfl, _, rfl, _, rfl, ?_⟩
        refine inL_use (.inr (ta1.same s2).1.1) ⟨_, rfl, ?_⟩
        cases c : decide (z ∈ lot) with
        | false => exact iteF (k2 c _ (Same.refl _))
        | true => exact iteT ⟨_, rfl, a, lot, rfl, (ta1.same s2).1.1, (ta1.same s2).1.2, _, rfl, z, rfl, (ta1.same s2).1.1, of_decide_eq_true c, k1 c _ _ (Same.refl _) (.int _)⟩
      have ez : ((List.range (ns.map V.int).length).filter fun j => decide (ns.getD j 0 ∈ lot)).map (fun j => PyData.int ((lot.idxOf (ns.getD j 0) : Nat) : Int)) = (keptRow lot ns).map PyData.int := by
        unfold keptRow
        rw [List.length_map, List.map_map]
        exact filter_map_range (fun x : Int => decide (x ∈ lot)) (fun x => PyData.int ((lot.idxOf x : Nat) : Int)) 0 ns
      rw [ez] at r2
      have := r2.ofInts
      subst this
      have lk : (keptRow lot ns).length ≤ 1000 := by
        unfold keptRow
        rw [List.length_map]
        exact Nat.le_trans (List.length_filter_le _ _) t.2
      generalize keptRow lot ns = kr at *
      dsimp only [tNil]
      refine tupL_use (SqL.of hz3) fun q H3 s3 t3 => ?_
      have s23 := s2.trans s3
      have f3 : Fill H D H3 ys := ⟨fl.1.trans s23, s23 _ _ fl.2⟩
      refine ⟨_, rfl, q, _, rfl, .inr t3, _, _, rfl, rfl, _, rfl, ?_⟩
      rw [List.length_map]
      by_cases c : 2 ≤ kr.length
      · rw [decide_eq_true (show (1 : Int) < ((kr.length : Nat) : Int) by omega)]
        rw [if_pos c] at estep
        have hs1 : (1000 : Nat) < sizeLine := by decide
        refine iteT ⟨_, rfl, .inl ⟨rfl, _, SqL.of f3.2⟩, _, rfl, D, ys, .ref q, rfl, rfl, f3.2, by omega, ?_⟩
        refine ⟨ys ++ [.ref q], _, _, _, rfl, Fill.push hD f3 (Same.refl _), ?_, by rw [List.length_append, List.length_singleton]; omega⟩
        rw [estep, List.map_append]
        refine RpAll.upd f3.2 (by rw [← List.map_append (f := dTup)]; exact noLs_rows _) ((ry.same s23).app (.one ?_))
        exact TupI.rp ⟨t3, lk⟩
      · rw [decide_eq_false (show ¬ (1 : Int) < ((kr.length : Nat) : Int) by omega)]
        rw [if_neg c, List.append_nil] at estep
        refine iteF ⟨ys, _, _, _, rfl, f3, ?_, by omega⟩
        rw [estep]
        exact ry.same s23
    · subst e1
      rw [lx, List.take_length] at ry
      refine ⟨_, rfl, a, _, rfl, .inr (ta.same fl.1).1.1, _, rfl, D, _, rfl, .inl ⟨SqL.of fl.2, fun q hq => ?_⟩⟩
      have s2 := same_upd (o := .tup ys) hq
      refine ⟨(by show 2 ≤ sizeLine; decide), fun q2 hq2 => ?_⟩
      have s3 := same_upd (o := .tup [V.int ((lot.map V.int).length : Nat), .ref q]) hq2
      refine k _ _ (fl.1.trans (s2.trans s3)) ?_
      rw [List.length_map]
      exact rp_bookNew (SqT.of upd_same) (by omega) (ry.same s2) hq2
theorem ok__law_named (T : Txt K mg ad fd) : FnOk P w K mg base CX0 1 (ad 79) (fd 79) ["_law_web", "_law_names"] (spNamed K) := by
  refine T.F__law_named.ok sc__law_named (fun vs H Q E h => ?_) (fun cdv A outer s H vs Q E hr h => ?_)
  · obtain ⟨v, a, n, rows, lot, rfl, _⟩ := h
    rfl
  · obtain ⟨v, a, n, rows, names, rfl, hv, ta, hb', k⟩ := h
    refine ⟨_, (pss_one (ps_ret (pe_tup (pa_cons (pe_ix (ixT K) (pv 0) pe_int (fun _ _ => rfl)) (pa_cons (pe_callTy (tupOf K) (by rfl) T.g_tuple (by decide +kernel) (pa_cons (pe_lc (own := [("_law_row", 2)]) (g := gName 2) rfl sc__law_named.nd (piT K (pe_ix (ixT K) (pv 0) pe_int (fun _ _ => rfl))) (blkOk_by (N := ["_law_web", "_law_names", "_law_row", "_law_x"]) (sc := defScope s__law_named) (by decide +kernel)) (fun _ _ _ _ _ => (pg_name (i := 2) (x := "_law_row") sc__law_named.nd rfl (Or.inl rfl))) (fun _ _ _ _ _ => pts_nil) (fun _ _ _ _ _ => (pe_callTy (tupOf K) (by rfl) T.g_tuple (by decide +kernel) (pa_cons (pe_callB (srtI K) (by rfl) T.g_sorted (by decide +kernel) (pa_cons (pe_lc (own := [("_law_x", 3)]) (g := gName 3) rfl sc__law_named.nd (piT K (pv 2)) (blkOk_by (N := ["_law_web", "_law_names", "_law_row", "_law_x"]) (sc := { kind := PySem.ScopeKind.function, names := [ (PySem.Str.ofString ".0", PySem.NameKind.local), (PySem.Str.ofString "_law_row", PySem.NameKind.local), (PySem.Str.ofString "tuple", PySem.NameKind.globalImplicit), (PySem.Str.ofString "sorted", PySem.NameKind.globalImplicit), (PySem.Str.ofString "_law_names", PySem.NameKind.cell)], isGenerator := false, isCoroutine := false, more := [] : PySem.Scope }) (by decide +kernel)) (fun _ _ _ _ _ => (pg_name (i := 3) (x := "_law_x") sc__law_named.nd rfl (Or.inl rfl))) (fun _ _ _ _ _ => pts_nil) (fun _ _ _ _ _ => (pe_ix (ixS K) (pv 1) (pv 3) (fun _ _ => rfl)))) pa_nil)) pa_nil)))) pa_nil)) pa_nil))))), ?_⟩
    obtain ⟨b, L, xs, rfl, hb, hL, hz, hr2⟩ := rp_book hv
    have lx : xs.length = rows.length := by rw [hr2.length, List.length_map]
    refine ⟨_, rfl, b, _, 0, _, rfl, rfl, hb, rfl, _, rfl, b, _, 1, _, rfl, rfl, hb, rfl, L, rfl, ⟨_, hL⟩, fun D hD => ?_⟩
    refine lcT (K := K) (xs := xs) (fun _ => true) (fun j => dTup (srt (labels names (rows.getD j [])))) hD hL hz (fun _ _ _ => noL_dTup _) (fun j x H5 hj s5 Q1 Q2 k1 k2 => ?_) (fun ys H5 s5 hy r5 => ?_)
    · obtain ⟨ns, a2, hn2, rfl, t⟩ := hr2.row hj
      have t := t.same s5
      have en : rows.getD j [] = ns := by rw [List.getD_eq_getElem?_getD, hn2]; rfl
      rw [en] at k1
      have hns := hb' ns (List.mem_of_getElem? hn2)
      refine ⟨rfl, _, rfl, a2, rfl, ⟨_, t.1⟩, fun D3 hD3 => ?_⟩
      refine lcT (K := K) (xs := ns.map V.int) (fun _ => true) (fun j => .int (names.getD (ns.getD j 0).toNat 0)) hD3 t.1 (by rw [List.length_map]; exact t.2) (fun _ _ _ => rfl) (fun z v H6 hz6 s6 Q5 Q6 k5 k6 => ?_) (fun zs H6 s6 hz6 r6 => ?_)
      · obtain ⟨i, hi, rfl⟩ := lab_at hz6
        have eg := getD_at hi
        rw [eg] at k5
        have hb2 := hns i (List.mem_of_getElem? hi)
        have s56 := s5.trans s6
        refine ⟨rfl, _, rfl, _, rfl, ?_⟩
        rcases ta with ta | ta
        · exact .inl ⟨a, _, _, _, rfl, rfl, s56.seq ta, at_of (j := i.toNat) (by omega) (mapD (by omega)), k5 rfl _ _ (Same.refl _) (.int _)⟩
        · exact .inr ⟨a, _, _, _, rfl, rfl, seqT s56 ta, at_of (j := i.toNat) (by omega) (mapD (by omega)), k5 rfl _ _ (Same.refl _) (.int _)⟩
      · rw [filter_true] at r6
        have ez : (List.range (ns.map V.int).length).map (fun j => PyData.int (names.getD (ns.getD j 0).toNat 0)) = (labels names ns).map PyData.int := by
          rw [List.length_map]
          unfold labels
          rw [List.map_map]
          exact map_range (fun x : Int => PyData.int (names.getD x.toNat 0)) 0 ns
        rw [ez] at r6
        have := r6.ofInts
        subst this
        dsimp only [tNil]
        refine ⟨D3, labels names ns, rfl, SqL.of hz6, fun ns' q pm' pw' hq => ?_⟩
        have es := srt_eq pm' pw'
        subst es
        have s7 := same_upd (o := .lst ((srt (labels names ns)).map V.int)) hq
        refine tupL_use (SqL.of upd_same) fun q2 H8 s8 hq2 => k1 rfl _ _ (s6.trans (s7.trans s8)) (TupI.rp ⟨hq2, ?_⟩)
        rw [srt_length]
        unfold labels
        rw [List.length_map]
        exact t.2
    · rw [filter_true] at r5
      have ez : (List.range xs.length).map (fun j => dTup (srt (labels names (rows.getD j [])))) = (relab names rows).map dTup := by
        rw [lx]
        unfold relab
        rw [List.map_map]
        exact map_range (fun r : List Int => dTup (srt (labels names r))) [] rows
      rw [ez] at r5
      have ly : ys.length = rows.length := by rw [r5.length, List.length_map]; unfold relab; rw [List.length_map]
      dsimp only [tNil]
      refine tupL_use (SqL.of hy) fun q H6 s6 hq => ⟨(by show 2 ≤ sizeLine; decide), fun q2 hq2 => ?_⟩
      have s7 := same_upd (o := .tup [V.int n, .ref q]) hq2
      exact k _ _ (s5.trans (s6.trans s7)) (rp_bookNew hq (by omega) (r5.same s6) hq2)
end
end LK
namespace LK
open PySem PySem.Spec PyProof.Rows L2
def spHigher (K : PySem.W.Frag) : Sp := fun vs H Q _ => ∃ (S p a : Addr) (line : List Int), vs = [.ref S, .ref a] ∧ StOk H S p ∧ TI K (hide S H) a line ∧ line.length ≤ 900 ∧ ∀ b line' H', Mv S p H H' → TI K (hide S H') b line' → line'.Perm line → Q (.ref b) H'
def LotOk (n : Int) (lot : List Int) : Prop := lot ≠ [] ∧ lot.Pairwise (· < ·) ∧ ∀ x ∈ lot, 0 ≤ x ∧ x < n
def spLotL (K : PySem.W.Frag) : Sp := fun vs H Q _ => ∃ (S p : Addr) (n : Int), vs = [.ref S, .int n] ∧ StOk H S p ∧ 1 ≤ n ∧ n ≤ 900 ∧ ∀ a lot H', Mv S p H H' → TI K (hide S H') a lot → LotOk n lot → Q (.ref a) H'
theorem swap_perm {line : List Int} {k : Nat} (h : k + 1 < line.length) : (line.take k ++ [line.getD (k + 1) 0, line.getD k 0] ++ line.drop (k + 2)).Perm line := by
  have e : line = line.take k ++ ([line.getD k 0, line.getD (k + 1) 0] ++ line.drop (k + 2)) := by
    conv => lhs; rw [← List.take_append_drop k line]
    congr 1
    rw [List.drop_eq_getElem_cons (by omega), List.drop_eq_getElem_cons (i := k + 1) (by omega)]
    have e1 : line.getD k 0 = line[k] := by rw [List.getD_eq_getElem?_getD, List.getElem?_eq_getElem (by omega)]; rfl
    have e2 : line.getD (k + 1) 0 = line[k + 1] := by rw [List.getD_eq_getElem?_getD, List.getElem?_eq_getElem h]; rfl
    rw [e1, e2]
    rfl
  conv => rhs; rw [e]
  rw [List.append_assoc]
  exact (List.Perm.append_right _ (List.Perm.swap _ _ _)).append_left _
section
variable {P : Program} {w : World} {K : PySem.W.Frag} {mg : Str → Option Value} {base : Heap} {ad : Nat → Addr} {fd : Nat → FuncData}
theorem ok__law_higher (T : Txt K mg ad fd) : FnOk P w K mg base CX0 2 (ad 82) (fd 82) ["_law_tape_here", "_law_line_here"] (spHigher K) := by
  refine T.F__law_higher.ok sc__law_higher (fun vs H Q E h => ?_) (fun cdv A outer s H vs Q E hr h => ?_)
  · obtain ⟨S, p, a, line, rfl, _⟩ := h
    rfl
  · obtain ⟨S, p, a, line, rfl, st, ta, hl, k⟩ := h
    refine ⟨_, (pss_cons (ps_for PassesOwn.never rfl (pi_range1 rfl T.g_range (pa_cons (pe_op op_sub (pe_callB (lenS K) (by rfl) T.g_len (by decide +kernel) (pa_cons (pv 1) pa_nil)) pe_int) pa_nil)) (pg_name (i := 2) (x := "_law_k") sc__law_higher.nd rfl (Or.inl rfl))
  (pss_one (ps_if (PW.pt (pw_and (pt_cmpR op_lt (pe_ix (ixT K) (pv 1) (pv 2) (fun _ _ => rfl)) (pe_ix (ixT K) (pv 1) (pe_op op_add (pv 2) pe_int) (fun _ _ => rfl)) (nomark _)) (pw_and1 (pt_cmpR op_eq (pe_call (ok__law_draw T) (hr.mono (by decide)) rfl T.m__law_draw T.F__law_draw.kp (b__law_draw T) .nil pass0 (pa_cons (pv 0) (pa_cons pe_int pa_nil))) pe_int (nomark _))))) (pss_one (ps_set (i := 1) sc__law_higher.nd rfl (Or.inl rfl) (pe_op (catN K) (pe_op (catN K) (pe_slice (slN K) (pv 1) po_none (po_some (pv 2))) (pe_tupN K (pa_cons (pe_ix (ixT K) (pv 1) (pe_op op_add (pv 2) pe_int) (fun _ _ => rfl)) (pa_cons (pe_ix (ixT K) (pv 1) (pv 2) (fun _ _ => rfl)) pa_nil)))) (pe_slice (slN K) (pv 1) (po_some (pe_op op_add (pv 2) pe_int)) po_none))))
  pss_nil)))
  (pss_one (ps_ret (pv 1)))), ?_⟩
    refine ⟨_, rfl, a, _, rfl, .inr ta.show.1.1, _, _, rfl, rfl, _, rfl, by rw [List.length_map]; omega, by rw [List.length_map]; omega, for_range (lo := 0) (n := (((line.map V.int).length : Nat) - 1 : Int).toNat) (fun i σ H1 => ∃ (a : Addr) (ln : List Int) (v2 : Option V), σ = [some (.ref S), some (.ref a), v2] ∧ Mv S p H H1 ∧ TI K (hide S H1) a ln ∧ ln.Perm line)
      ⟨a, line, none, rfl, Mv.refl st, ta, .refl _⟩ (fun i σ H1 hi ⟨a, ln, v2, e1, mv, ta, pm⟩ => ?_) (fun σ H1 ⟨a, ln, v2, e1, mv, ta, pm⟩ => ?_)⟩
    · subst e1
      rw [List.length_map] at hi
      have ll := pm.length_eq
      have ta1 := ta.show
      refine ⟨_, rfl, _, rfl, a, _, _, _, rfl, rfl, ta1.1.1, at_of (j := i) (by omega) (mapD (by omega)), _, rfl, _, rfl, _, _, rfl, rfl, a, _, _, _, rfl, rfl, ta1.1.1, at_of (j := i + 1) (by omega) (mapD (by omega)), _, _, rfl, rfl, _, rfl, ?_⟩
      cases decide (ln.getD i 0 < ln.getD (i + 1) 0) with
      | false => exact iteF ⟨a, ln, _, rfl, mv, ta, pm⟩
      | true =>
        refine iteT ⟨_, rfl, S, p, _, rfl, mv.ok, by decide, by decide, fun r H2 r0 r1 mv2 => ⟨rfl, _, rfl, ?_⟩⟩
        cases decide (V.int r = V.int 1) with
        | false => exact iteF ⟨a, ln, _, rfl, mv.trans mv2, mv2.ti ta, pm⟩
        | true =>
          have ta2 := (mv2.ti ta).show
          refine iteT ?_
          dsimp only [gName, tSeq, tAsg, tNext]
          refine ⟨_, rfl, ?_⟩
          dsimp only [tNoPart]
          refine ⟨_, rfl, _, rfl, a, _, rfl, ta2.1, fun p1 H3 s3 t3 => ?_⟩
          rw [cutI_take (by omega) (by omega)] at t3
          have ta3 := ta2.same s3
          refine ⟨_, rfl, _, rfl, _, _, rfl, rfl, a, _, _, _, rfl, rfl, ta3.1.1, at_of (j := i + 1) (by omega) (mapD (by omega)), _, rfl, _, rfl, a, _, _, _, rfl, rfl, ta3.1.1, at_of (j := i) (by omega) (mapD (by omega)), (by show 2 ≤ sizeLine; decide), fun p2 H4 s4 _ t4 => ?_⟩
          refine ⟨p1, p2, _, _, rfl, rfl, t3.same s4, t4, by rw [List.length_map, List.length_take]; show _ + 2 ≤ 2000; omega, fun p3 H5 s5 t5 => ?_⟩
          refine ⟨_, rfl, _, rfl, _, _, rfl, rfl, _, rfl, ?_⟩
          dsimp only [tNoPart]
          refine ⟨a, _, rfl, (ta2.same (s3.trans (s4.trans s5))).1, fun p4 H6 s6 t6 => ?_⟩
          rw [cutI_drop (by omega) (by omega)] at t6
          refine ⟨p3, p4, _, _, rfl, rfl, t5.same s6, t6, by simp only [List.length_append, List.length_map, List.length_take, List.length_drop, List.length_cons, List.length_nil]; omega, fun p5 H7 s7 t7 => ?_⟩
          have m7 := (mv.trans mv2).then (s3.trans (s4.trans (s5.trans (s6.trans s7))))
          have z1 : (0 + (i : Int)).toNat = i := by omega
          have z2 : (0 + (i : Int) + 2).toNat = i + 2 := by omega
          rw [z1, z2] at t7
          refine ⟨p5, ln.take i ++ [ln.getD (i + 1) 0, ln.getD i 0] ++ ln.drop (i + 2), _, rfl, m7, ⟨?_, ?_⟩, (swap_perm (by omega)).trans pm⟩
          · have e7 : (ln.take i).map V.int ++ [V.int (ln.getD (i + 1) 0), V.int (ln.getD i 0)] ++ (ln.drop (i + 2)).map V.int = (ln.take i ++ [ln.getD (i + 1) 0, ln.getD i 0] ++ ln.drop (i + 2)).map V.int := by
              rw [List.map_append, List.map_append]
              rfl
            rw [← e7]
            exact t7.hide m7.ok
          · rw [(swap_perm (by omega)).length_eq]
            omega
    · subst e1
      exact ⟨_, rfl, k a ln H1 mv ta pm⟩
theorem ok__law_lot (T : Txt K mg ad fd) : FnOk P w K mg base CX0 2 (ad 83) (fd 83) ["_law_tape_here", "_law_size"] (spLotL K) := by
  refine T.F__law_lot.ok sc__law_lot (fun vs H Q E h => ?_) (fun cdv A outer s H vs Q E hr h => ?_)
  · obtain ⟨S, p, n, rfl, _⟩ := h
    rfl
  · obtain ⟨S, p, n, rfl, st, h0, h1, k⟩ := h
    refine ⟨_, (pss_cons (ps_set (i := 2) sc__law_lot.nd rfl (Or.inl rfl) (pe_callTy (tupN K) (by rfl) T.g_tuple (by decide +kernel) (pa_cons (pe_lc (own := [("_law_x", 3)]) (g := gName 3) rfl sc__law_lot.nd (pi_range1 rfl T.g_range (pa_cons (pv 1) pa_nil)) (blkOk_by (N := ["_law_tape_here", "_law_size", "_law_lot_here", "_law_x"]) (sc := defScope s__law_lot) (by decide +kernel)) (fun _ _ _ _ _ => (pg_name (i := 3) (x := "_law_x") sc__law_lot.nd rfl (Or.inl rfl))) (fun _ _ _ _ _ => (pts_one (pt_cmpR op_gt (pe_call (ok__law_draw T) (hr.mono (by decide)) rfl T.m__law_draw T.F__law_draw.kp (b__law_draw T) .nil pass0 (pa_cons (pv 0) (pa_cons pe_int pa_nil))) pe_int (nomark _)))) (fun _ _ _ _ _ => (pv 3))) pa_nil)))
  (pss_cons (ps_if (pt_not (pt_truth (pv 2) (by intro _; rfl))) (pss_one (ps_ret (pe_tupN K (pa_cons (pe_call (ok__law_draw T) (hr.mono (by decide)) rfl T.m__law_draw T.F__law_draw.kp (b__law_draw T) .nil pass0 (pa_cons (pv 0) (pa_cons (pv 1) pa_nil))) pa_nil))))
  pss_nil)
  (pss_one (ps_ret (pv 2))))), ?_⟩
    refine ⟨_, rfl, n, rfl, by omega, by omega, fun D hD => ?_⟩
    have DS := free_ne st hD
    have m0 : Mv S p H (upd H D (.lst [])) := (Mv.refl st).put st hD
    refine lc_range (lo := 0) (n := n.toNat) (fun i H1 => ∃ ns : List Int, Mv S p H H1 ∧ H1 D = some (.lst (ns.map V.int)) ∧ ns.length ≤ i ∧ ns.Pairwise (· < ·) ∧ ∀ x ∈ ns, 0 ≤ x ∧ x < i)
      ⟨[], m0, upd_same, Nat.le_refl _, .nil, fun x hx => by cases hx⟩ (fun i H1 hi ⟨ns, mv, hz, hl, pw, hb⟩ => ?_) (fun H1 ⟨ns, mv, hz, hl, pw, hb⟩ => ?_)
    · refine ⟨rfl, _, rfl, S, p, _, rfl, mv.ok, by decide, by decide, fun r H2 r0 r1 mv2 => ⟨_, _, rfl, rfl, _, rfl, ?_⟩⟩
      have hz2 := mv2.get DS hz
      cases decide ((0 : Int) < r) with
      | false => exact iteF ⟨ns, mv.trans mv2, hz2, by omega, pw, fun x hx => by have := hb x hx; omega⟩
      | true =>
        have hs1 : (1000 : Nat) < sizeLine := by decide
        refine iteT ⟨_, rfl, _, hz2, by rw [List.length_map]; omega, ns ++ [(i : Int)], (mv.trans mv2).put st hD, ?_, by rw [List.length_append, List.length_singleton]; omega, ?_, ?_⟩
        · rw [upd_same, List.map_append, Int.zero_add]
          rfl
        · refine List.pairwise_append.mpr ⟨pw, by simp, fun x hx y hy => ?_⟩
          have := hb x hx
          rw [List.mem_singleton.mp hy]
          omega
        · intro x hx
          rcases List.mem_append.mp hx with z | z
          · have := hb x z
            omega
          · rw [List.mem_singleton.mp z]
            omega
    · refine ⟨D, _, rfl, SqL.of hz, fun l o hl0 ho => ?_⟩
      have s3 := same_upd (o := .frz o (.tup (ns.map V.int))) hl0
      have m3 := mv.then s3
      have t3 : TN K (upd H1 l (.frz o (.tup (ns.map V.int)))) l (ns.map V.int) := tn_new ho
      refine ⟨_, rfl, _, .inr (.inl ⟨_, t3.1, rfl⟩), ?_⟩
      cases ns with
      | nil =>
        refine iteT ⟨_, rfl, _, rfl, S, p, _, rfl, m3.ok, by omega, by omega, fun r H2 r0 r1 mv2 => ⟨(by show 1 ≤ sizeLine; decide), fun q H4 s4 _ t4 => ?_⟩⟩
        have m4 := (m3.trans mv2).then s4
        exact k q [r] _ m4 ⟨t4.hide m4.ok, by show 1 ≤ 1000; decide⟩ ⟨by simp, by simp, fun x hx => by rw [List.mem_singleton.mp hx]; omega⟩
      | cons x ns =>
        refine iteF ⟨_, rfl, k l (x :: ns) _ m3 ⟨t3.hide m3.ok, by omega⟩ ⟨by simp, pw, fun y hy => by have := hb y hy; omega⟩⟩
end
end LK
namespace LK
open PySem PySem.Spec PyProof.Rows L2
/-! sortings kept to a lot -/
variable {n : Int} {rows : List (List Int)} {line later lot : List Int}
theorem lot_nd (h : LotOk n lot) : lot.Nodup := h.2.1.imp fun h => by omega
theorem lot_idx (h : LotOk n lot) {a b : Int} (ha : a ∈ lot) (hb : b ∈ lot) : lot.idxOf a < lot.idxOf b ↔ a < b := by
  rw [ord_iff (f := Int.toNat) (List.Pairwise.imp_of_mem (fun {x y} hx hy hxy => by have := h.2.2 x hx; have := h.2.2 y hy; omega) h.2.1) ha hb]
  have := h.2.2 a ha
  have := h.2.2 b hb
  omega
theorem lot_get (h : LotOk n lot) {i : Nat} (hi : i < lot.length) : lot.idxOf (lot.getD i 0) = i := by
  have e : lot.getD i 0 = lot[i] := by rw [List.getD_eq_getElem?_getD, List.getElem?_eq_getElem hi]; rfl
  rw [e]
  exact idxOf_get (lot_nd h) hi
theorem get_idx {l : List Int} {x : Int} (h : x ∈ l) : l.getD (l.idxOf x) 0 = x := by
  rw [List.getD_eq_getElem?_getD, idx_get h]
  rfl
theorem mem_kept {lot r : List Int} {y : Int} : y ∈ keptRow lot r ↔ ∃ x, x ∈ r ∧ x ∈ lot ∧ y = ((lot.idxOf x : Nat) : Int) := by
  unfold keptRow
  rw [List.mem_map]
  constructor
  · rintro ⟨x, hx, rfl⟩
    obtain ⟨h1, h2⟩ := List.mem_filter.mp hx
    exact ⟨x, h1, of_decide_eq_true h2, rfl⟩
  · rintro ⟨x, h1, h2, rfl⟩
    exact ⟨x, List.mem_filter.mpr ⟨h1, decide_eq_true h2⟩, rfl⟩
theorem two_len {l : List Int} {a b : Int} (ha : a ∈ l) (hb : b ∈ l) (h : a ≠ b) : 2 ≤ l.length := by
  match l, ha, hb with
  | [x], ha, hb => exact absurd ((List.mem_singleton.mp ha).trans (List.mem_singleton.mp hb).symm) h
  | _ :: _ :: _, _, _ => simp
theorem tied_kept (h : LotOk n lot) {x y : Int} (hx : x ∈ lot) (hy : y ∈ lot) (e : x ≠ y) : tiedB (keptRows lot rows) ((lot.idxOf x : Nat) : Int) ((lot.idxOf y : Nat) : Int) = tiedB rows x y := by
  have mem : ∀ {z : Int} {r : List Int}, z ∈ lot → (((lot.idxOf z : Nat) : Int) ∈ keptRow lot r ↔ z ∈ r) := fun {z r} hz => by
    rw [mem_kept]
    constructor
    · rintro ⟨u, h1, h2, h3⟩
      have := idxOf_inj hz h2 (by omega)
      rw [this]
      exact h1
    · intro h1
      exact ⟨z, h1, hz, rfl⟩
  unfold tiedB
  rw [Bool.eq_iff_iff, List.any_eq_true, List.any_eq_true]
  constructor
  · rintro ⟨r', h1, h2⟩
    unfold keptRows at h1
    obtain ⟨h3, _⟩ := List.mem_filter.mp h1
    obtain ⟨r, hr, rfl⟩ := List.mem_map.mp h3
    rw [Bool.and_eq_true, decide_eq_true_eq, decide_eq_true_eq, mem hx, mem hy] at h2
    exact ⟨r, hr, by rw [decide_eq_true h2.1, decide_eq_true h2.2]; rfl⟩
  · rintro ⟨r, hr, h2⟩
    rw [Bool.and_eq_true, decide_eq_true_eq, decide_eq_true_eq] at h2
    have m1 := (mem hx).mpr h2.1
    have m2 := (mem hy).mpr h2.2
    refine ⟨keptRow lot r, List.mem_filter.mpr ⟨List.mem_map.mpr ⟨r, hr, rfl⟩, decide_eq_true (two_len m1 m2 fun z => e (idxOf_inj hx hy (by omega)))⟩, ?_⟩
    rw [decide_eq_true m1, decide_eq_true m2]
    rfl
theorem kept_in (lot : List Int) (rows : List (List Int)) : RowsIn (lot.length : Nat) (keptRows lot rows) := fun r hr x hx => by
  unfold keptRows at hr
  obtain ⟨h3, _⟩ := List.mem_filter.mp hr
  obtain ⟨r0, _, rfl⟩ := List.mem_map.mp h3
  obtain ⟨z, _, hz, rfl⟩ := mem_kept.mp hx
  have := List.idxOf_lt_length_iff.mpr hz
  omega
theorem kept_ln (hL : Ln n line) (h : LotOk n lot) : Ln (lot.length : Nat) (keptRow lot line) := by
  refine ln_of (by omega) ?_ fun x => ?_
  · unfold keptRow
    rw [List.nodup_iff_pairwise_ne, List.pairwise_map]
    refine List.Pairwise.imp_of_mem (R := fun a b => a ≠ b) (fun {a b} ha hb hab z => ?_) (hL.nd.sublist List.filter_sublist)
    exact hab (idxOf_inj (of_decide_eq_true (List.mem_filter.mp ha).2) (of_decide_eq_true (List.mem_filter.mp hb).2) (by omega))
  · rw [mem_kept]
    constructor
    · rintro ⟨y, h1, h2, rfl⟩
      have := List.idxOf_lt_length_iff.mpr h2
      omega
    · rintro ⟨h1, h2⟩
      have hm : lot.getD x.toNat 0 ∈ lot := getD_mem (by omega)
      exact ⟨_, hL.mem.mpr (h.2.2 _ hm), hm, by rw [lot_get h (by omega)]; omega⟩
theorem kept_lt (hL : Ln n line) (h : LotOk n lot) {x y : Int} (hx : x ∈ lot) (hy : y ∈ lot) : (keptRow lot line).idxOf ((lot.idxOf x : Nat) : Int) < (keptRow lot line).idxOf ((lot.idxOf y : Nat) : Int) ↔ line.idxOf x < line.idxOf y := by
  unfold keptRow
  have im : ∀ {z : Int}, z ∈ lot → ((line.filter fun x => decide (x ∈ lot)).map fun x => ((lot.idxOf x : Nat) : Int)).idxOf ((lot.idxOf z : Nat) : Int) = (line.filter fun x => decide (x ∈ lot)).idxOf z := fun {z} hz =>
    idx_map (g := fun x => ((lot.idxOf x : Nat) : Int)) fun a ha e => idxOf_inj (of_decide_eq_true (List.mem_filter.mp ha).2) hz (by omega)
  rw [im hx, im hy]
  exact sub_idx List.filter_sublist hL.nd (List.mem_filter.mpr ⟨hL.mem.mpr (h.2.2 x hx), decide_eq_true hx⟩) (List.mem_filter.mpr ⟨hL.mem.mpr (h.2.2 y hy), decide_eq_true hy⟩)
theorem restr_mem {T : List (List Int)} {t : List Int} : t ∈ restr lot T ↔ ∃ s, s ∈ T ∧ s.getD 0 0 ∈ lot ∧ s.getD 1 0 ∈ lot ∧ t = [((lot.idxOf (s.getD 0 0) : Nat) : Int), ((lot.idxOf (s.getD 1 0) : Nat) : Int)] := by
  unfold restr
  rw [List.mem_map]
  constructor
  · rintro ⟨s, hs, rfl⟩
    obtain ⟨h1, h2⟩ := List.mem_filter.mp hs
    rw [Bool.and_eq_true, decide_eq_true_eq, decide_eq_true_eq] at h2
    exact ⟨s, h1, h2.1, h2.2, rfl⟩
  · rintro ⟨s, h1, h2, h3, rfl⟩
    exact ⟨s, List.mem_filter.mpr ⟨h1, by rw [decide_eq_true h2, decide_eq_true h3]; rfl⟩, rfl⟩
theorem restr_fit (hL : Ln n line) (h : LotOk n lot) : restr lot (fitT n rows line) = fitT (lot.length : Nat) (keptRows lot rows) (keptRow lot line) := by
  refine lex_ext ?_ (fit_pw _ _ _) (fun t ht => ?_) (fit_prs _ _ _) fun t => ?_
  · unfold restr
    rw [List.pairwise_map]
    refine List.Pairwise.imp_of_mem (fun {s t} hs ht hst => ?_) (List.Pairwise.filter _ (fit_pw n rows line))
    obtain ⟨h1, h2⟩ := List.mem_filter.mp hs
    obtain ⟨h3, h4⟩ := List.mem_filter.mp ht
    obtain ⟨a, b, rfl⟩ := fit_prs _ _ _ s h1
    obtain ⟨c, d, rfl⟩ := fit_prs _ _ _ t h3
    rw [Bool.and_eq_true, decide_eq_true_eq, decide_eq_true_eq] at h2 h4
    have ha : a ∈ lot := h2.1
    have hb : b ∈ lot := h2.2
    have hc : c ∈ lot := h4.1
    have hd : d ∈ lot := h4.2
    refine lex_iff.mpr ?_
    show ((lot.idxOf a : Nat) : Int) < ((lot.idxOf c : Nat) : Int) ∨ (((lot.idxOf a : Nat) : Int) = ((lot.idxOf c : Nat) : Int) ∧ ((lot.idxOf b : Nat) : Int) < ((lot.idxOf d : Nat) : Int))
    have i1 := lot_idx h ha hc
    have i2 := lot_idx h hb hd
    rcases lex_iff.mp hst with z | ⟨z1, z2⟩
    · left
      have := i1.mpr z
      omega
    · right
      subst z1
      have := i2.mpr z2
      omega
  · obtain ⟨s, _, _, _, rfl⟩ := restr_mem.mp ht
    exact ⟨_, _, rfl⟩
  · rw [restr_mem]
    constructor
    · rintro ⟨s, h1, h2, h3, rfl⟩
      obtain ⟨lo, hi, rfl, h4, h5, h6, h7⟩ := fit_mem.mp h1
      have h2 : (lo : Int) ∈ lot := h2
      have h3 : (hi : Int) ∈ lot := h3
      refine fit_pair.mpr ⟨?_, ?_, ?_, ?_⟩
      · exact (lot_idx h h2 h3).mpr (by omega)
      · have := List.idxOf_lt_length_iff.mpr h3
        show ((lot.idxOf (hi : Int) : Nat) : Int) < _
        omega
      · exact (tied_kept h h2 h3 (by omega)).trans h6
      · exact (kept_lt hL h h3 h2).mpr h7
    · intro hz
      obtain ⟨a, b, rfl, h4, h5, h6, h7⟩ := fit_mem.mp hz
      have ha : lot.getD a 0 ∈ lot := getD_mem (by omega)
      have hb : lot.getD b 0 ∈ lot := getD_mem (by omega)
      have ea := lot_get h (i := a) (by omega)
      have eb := lot_get h (i := b) (by omega)
      have na := h.2.2 _ ha
      have nb := h.2.2 _ hb
      have hlt : lot.getD a 0 < lot.getD b 0 := (lot_idx h ha hb).mp (by omega)
      have ht : tiedB rows (lot.getD a 0) (lot.getD b 0) = true := by
        rw [← tied_kept h ha hb (by omega), ea, eb]
        exact h6
      have hk : line.idxOf (lot.getD b 0) < line.idxOf (lot.getD a 0) := by
        rw [← kept_lt hL h hb ha, ea, eb]
        exact h7
      refine ⟨[lot.getD a 0, lot.getD b 0], ?_, ha, hb, ?_⟩
      · refine fit_mem.mpr ⟨(lot.getD a 0).toNat, (lot.getD b 0).toNat, ?_, by omega, by omega, ?_, ?_⟩
        · rw [Int.toNat_of_nonneg na.1, Int.toNat_of_nonneg nb.1]
        · rw [Int.toNat_of_nonneg na.1, Int.toNat_of_nonneg nb.1]
          exact ht
        · rw [Int.toNat_of_nonneg na.1, Int.toNat_of_nonneg nb.1]
          exact hk
      · show [(a : Int), (b : Int)] = [((lot.idxOf (lot.getD a 0) : Nat) : Int), ((lot.idxOf (lot.getD b 0) : Nat) : Int)]
        rw [ea, eb]
theorem isLot_ok (h : LotOk n lot) : isLot n (dTup lot) = true := by
  unfold isLot
  rw [dInts_tup, Bool.and_eq_true]
  constructor
  · show (lot.map PyData.int).all (isBelow n) = true
    rw [List.all_map]
    exact List.all_eq_true.mpr fun x hx => by simpa [isBelow] using h.2.2 x hx
  · have : ∀ l : List Int, l.Pairwise (· < ·) → rising l = true := by
      intro l
      induction l with
      | nil => intro _; rfl
      | cons a l ih =>
        intro hp
        cases l with
        | nil => rfl
        | cons b l =>
          have h1 := (List.pairwise_cons.mp hp).1 b (by simp)
          have h2 := ih (List.pairwise_cons.mp hp).2
          simp [rising, h1, h2]
    exact this _ h.2.1
theorem lot_pos (h : LotOk n lot) : 0 < lot.length := List.length_pos_iff.mpr h.1
theorem restricted_eq (hin : RowsIn n rows) (hL : Ln n line) (h : LotOk n lot) : restrictedX n rows (dRows (fitT n rows line)) (dTup lot) = .ok (dRows (fitT (lot.length : Nat) (keptRows lot rows) (keptRow lot line))) := by
  unfold restrictedX
  rw [fit_sorting hin hL, isLot_ok h, dInts_tup, toT_rows, decide_eq_true (lot_pos h), restr_fit hL h]
  rfl
theorem keptTo_eq (h : LotOk n lot) : keptTo n rows (dTup lot) = .ok (bookD (lot.length : Nat) (keptRows lot rows)) := by
  unfold keptTo
  rw [isLot_ok h, dInts_tup, decide_eq_true (lot_pos h)]
  rfl
theorem areTurned_iff {T S : List (List Int)} : areTurned T S = true ↔ ∀ t ∈ T, t ∈ S := by
  unfold areTurned
  rw [List.all_eq_true]
  exact ⟨fun h t ht => of_decide_eq_true (h t ht), fun h t ht => decide_eq_true (h t ht)⟩
theorem kept_beneath (hL : Ln n line) (hL2 : Ln n later) (h : LotOk n lot) (hb : areTurned (fitT n rows line) (fitT n rows later) = true) : areTurned (fitT (lot.length : Nat) (keptRows lot rows) (keptRow lot line)) (fitT (lot.length : Nat) (keptRows lot rows) (keptRow lot later)) = true := by
  rw [← restr_fit hL h, ← restr_fit hL2 h, areTurned_iff]
  intro t ht
  obtain ⟨s, h1, h2⟩ := restr_mem.mp ht
  exact restr_mem.mpr ⟨s, areTurned_iff.mp hb s h1, h2⟩
/-! a lot within -/
def innerL (lot within : List Int) : List Int := labels lot within
theorem inner_mem {within : List Int} (h : LotOk n lot) (hw : LotOk (lot.length : Nat) within) {x : Int} : x ∈ innerL lot within ↔ x ∈ lot ∧ ((lot.idxOf x : Nat) : Int) ∈ within := by
  unfold innerL labels
  rw [List.mem_map]
  constructor
  · rintro ⟨y, hy, rfl⟩
    have := hw.2.2 y hy
    refine ⟨getD_mem (by omega), ?_⟩
    rw [lot_get h (by omega), Int.toNat_of_nonneg this.1]
    exact hy
  · rintro ⟨h1, h2⟩
    refine ⟨_, h2, ?_⟩
    rw [Int.toNat_natCast]
    exact get_idx h1
theorem inner_idx {within : List Int} (h : LotOk n lot) (hw : LotOk (lot.length : Nat) within) {x : Int} (hx : x ∈ lot) : (innerL lot within).idxOf x = within.idxOf ((lot.idxOf x : Nat) : Int) := by
  have e : x = lot.getD (((lot.idxOf x : Nat) : Int)).toNat 0 := by
    rw [Int.toNat_natCast]
    exact (get_idx hx).symm
  unfold innerL labels
  conv => lhs; rw [e]
  refine idx_map (g := fun x => lot.getD x.toNat 0) fun a ha ea => ?_
  have h1 := hw.2.2 a ha
  have h2 := lot_get h (i := a.toNat) (by omega)
  have e2 : lot.getD a.toNat 0 = x := ea.trans e.symm
  rw [e2] at h2
  omega
theorem inner_lot {within : List Int} (h : LotOk n lot) (hw : LotOk (lot.length : Nat) within) : LotOk n (innerL lot within) := by
  refine ⟨?_, ?_, fun x hx => h.2.2 x ((inner_mem h hw).mp hx).1⟩
  · unfold innerL labels
    intro z
    exact hw.1 (List.map_eq_nil_iff.mp z)
  · unfold innerL labels
    rw [List.pairwise_map]
    refine List.Pairwise.imp_of_mem (fun {a b} ha hb hab => ?_) hw.2.1
    have h1 := hw.2.2 a ha
    have h2 := hw.2.2 b hb
    refine (lot_idx h (getD_mem (by omega)) (getD_mem (by omega))).mp ?_
    rw [lot_get h (by omega), lot_get h (by omega)]
    omega
theorem kept_kept {within : List Int} (h : LotOk n lot) (hw : LotOk (lot.length : Nat) within) (r : List Int) : keptRow within (keptRow lot r) = keptRow (innerL lot within) r := by
  unfold keptRow
  rw [List.filter_map, List.map_map, List.filter_filter]
  have e1 : (r.filter fun a => ((fun x => decide (x ∈ within)) ∘ fun x => ((lot.idxOf x : Nat) : Int)) a && decide (a ∈ lot)) = r.filter fun x => decide (x ∈ innerL lot within) := by
    refine List.filter_congr fun x _ => ?_
    rw [decide_eq_decide.mpr (inner_mem h hw), Bool.and_comm]
    show (decide (x ∈ lot) && decide (((lot.idxOf x : Nat) : Int) ∈ within)) = _
    rw [Bool.decide_and]
  rw [e1]
  refine List.map_congr_left fun x hx => ?_
  have := (inner_mem h hw).mp (of_decide_eq_true (List.mem_filter.mp hx).2)
  show ((within.idxOf ((lot.idxOf x : Nat) : Int) : Nat) : Int) = _
  rw [inner_idx h hw this.1]
theorem filter_map_filter {α β : Type} {p : α → Bool} {q : β → Bool} {f : α → β} : ∀ {l : List α}, (∀ x, p x = false → q (f x) = false) → ((l.filter p).map f).filter q = (l.map f).filter q
  | [], _ => rfl
  | x :: l, h => by
    have ih := filter_map_filter (p := p) (q := q) (f := f) (l := l) h
    rw [List.filter_cons, List.map_cons, List.filter_cons]
    cases c : p x with
    | true => rw [if_pos rfl, List.map_cons, List.filter_cons, ih]
    | false => rw [if_neg Bool.false_ne_true, h x c, if_neg Bool.false_ne_true, ih]
theorem keptRows_kept {within : List Int} (h : LotOk n lot) (hw : LotOk (lot.length : Nat) within) : keptRows within (keptRows lot rows) = keptRows (innerL lot within) rows := by
  unfold keptRows
  rw [filter_map_filter (p := fun r : List Int => decide (2 ≤ r.length)) (q := fun r : List Int => decide (2 ≤ r.length)) (f := keptRow within)]
  · rw [List.map_map]
    congr 1
    refine List.map_congr_left fun r _ => kept_kept h hw r
  · intro r hr
    have hr := of_decide_eq_false hr
    refine decide_eq_false fun z => hr (Nat.le_trans z ?_)
    unfold keptRow
    rw [List.length_map]
    exact List.length_filter_le _ _
theorem inner_len (lot within : List Int) : (innerL lot within).length = within.length := by
  unfold innerL labels
  rw [List.length_map]
theorem lot_all (h : 1 ≤ n) : LotOk n (rgI n.toNat) := ⟨fun z => by have := congrArg List.length z; rw [rgI_length, List.length_nil] at this; omega, rgI_pw _, fun x hx => by have := rgI_mem.mp hx; omega⟩
theorem idx_rg {m : Nat} {x : Int} (h0 : 0 ≤ x) (h1 : x < (m : Int)) : (rgI m).idxOf x = x.toNat := by
  have hl : x.toNat < (rgI m).length := by rw [rgI_length]; omega
  have e0 : (rgI m)[x.toNat]? = some x := by
    unfold rgI
    rw [List.getElem?_map, List.getElem?_range (by omega)]
    show some ((x.toNat : Nat) : Int) = some x
    rw [Int.toNat_of_nonneg h0]
  have e : (rgI m)[x.toNat]'hl = x := (List.getElem?_eq_some_iff.mp e0).2
  have := idxOf_get (rgI_nodup m) hl
  rw [e] at this
  exact this
theorem restr_all (h1 : 1 ≤ n) : restr (rgI n.toNat) (fitT n rows line) = fitT n rows line := by
  unfold restr
  have e1 : ((fitT n rows line).filter fun t => decide (t.getD 0 0 ∈ rgI n.toNat) && decide (t.getD 1 0 ∈ rgI n.toNat)) = fitT n rows line := List.filter_eq_self.mpr fun t ht => by
    obtain ⟨lo, hi, rfl, h2, h3, _⟩ := fit_mem.mp ht
    rw [decide_eq_true (show [(lo : Int), (hi : Int)].getD 0 0 ∈ rgI n.toNat from rgI_mem.mpr (by show (0 : Int) ≤ (lo : Int) ∧ (lo : Int) < _; omega)), decide_eq_true (show [(lo : Int), (hi : Int)].getD 1 0 ∈ rgI n.toNat from rgI_mem.mpr (by show (0 : Int) ≤ (hi : Int) ∧ (hi : Int) < _; omega))]
    rfl
  rw [e1]
  have : ∀ t ∈ fitT n rows line, (fun t : List Int => [(((rgI n.toNat).idxOf (t.getD 0 0) : Nat) : Int), (((rgI n.toNat).idxOf (t.getD 1 0) : Nat) : Int)]) t = id t := fun t ht => by
    obtain ⟨lo, hi, rfl, h2, h3, _⟩ := fit_mem.mp ht
    show [(((rgI n.toNat).idxOf (lo : Int) : Nat) : Int), (((rgI n.toNat).idxOf (hi : Int) : Nat) : Int)] = _
    rw [idx_rg (by omega) (by omega), idx_rg (by omega) (by omega)]
    rfl
  rw [List.map_congr_left this, List.map_id]
theorem restricted_all (hin : RowsIn n rows) (hL : Ln n line) (h1 : 1 ≤ n) : restrictedX n rows (dRows (fitT n rows line)) (dTup (rgI n.toNat)) = .ok (dRows (fitT n rows line)) := by
  unfold restrictedX
  rw [fit_sorting hin hL, isLot_ok (lot_all h1), dInts_tup, toT_rows, decide_eq_true (lot_pos (lot_all h1)), restr_all h1]
  rfl
end LK
namespace LK
open PySem PySem.Spec PyProof.Rows L2
def RowOk (n : Int) (r : List Int) : Prop := r.Pairwise (· < ·) ∧ 2 ≤ r.length ∧ ∀ x ∈ r, 0 ≤ x ∧ x < n
def RowsOk (n : Int) (rows : List (List Int)) : Prop := rows.length ≤ 8 ∧ ∀ r ∈ rows, RowOk n r
theorem WebOk.rows {n : Int} {rows : List (List Int)} (h : WebOk n rows) : RowsOk n rows := ⟨h.2.2.1, h.2.2.2⟩
theorem cutR {K : PySem.W.Frag} {H : Hp} {rows : List (List Int)} {xs : List V} (r : RpAll K H xs (rows.map dTup)) (lo hi : Option Int) : ∃ rows' : List (List Int), RpAll K H (cutV xs lo hi) (rows'.map dTup) ∧ (∀ t ∈ rows', t ∈ rows) ∧ rows'.length ≤ rows.length := by
  refine ⟨(rows.drop (HT.sIx xs.length 0 lo)).take (HT.sIx xs.length xs.length hi - HT.sIx xs.length 0 lo), ?_, fun t ht => List.mem_of_mem_drop (List.mem_of_mem_take ht), ?_⟩
  · rw [List.map_take, List.map_drop]
    exact rpTake _ (rpDrop _ r)
  · rw [List.length_take, List.length_drop]
    omega
theorem turn_len (xs : List V) : (cutV xs (some 1) none).length + (cutV xs none (some 1)).length ≤ xs.length := by
  cases xs with
  | nil =>
    have h1 := cutV_length [] (some 1) none
    have h2 := cutV_length [] none (some 1)
    simp only [List.length_nil] at h1 h2 ⊢
    omega
  | cons x xs =>
    rw [cut_drop (by decide) (by rw [List.length_cons]; omega), cut_take (by decide) (by rw [List.length_cons]; omega), List.length_drop, List.length_take, List.length_cons]
    have : ((1 : Int)).toNat = 1 := rfl
    rw [this]
    omega
theorem sub_ok {names r : List Int} {n : Int} (pm : names.Perm (rgI n.toNat)) (h0 : 0 ≤ n) (hs : r.Sublist names) (h2 : 2 ≤ r.length) : RowOk n (srt r) := by
  refine ⟨srt_lt ((pm.nodup_iff.mpr (rgI_nodup _)).sublist hs), by rw [srt_length]; exact h2, fun x hx => ?_⟩
  have := rgI_mem.mp (pm.mem_iff.mp (hs.mem ((srt_perm _).mem_iff.mp hx)))
  omega
def spOther (K : PySem.W.Frag) : Sp := fun vs H Q _ => ∃ (S p : Addr) (v : V) (n : Int) (rows : List (List Int)), vs = [.ref S, v] ∧ StOk H S p ∧ Rp K (hide S H) v (bookD n rows) ∧ WebOk n rows ∧ ∀ v' rows' H', Mv S p H H' → Rp K (hide S H') v' (bookD n rows') → WebOk n rows' → Q v' H'
section
variable {P : Program} {w : World} {K : PySem.W.Frag} {mg : Str → Option Value} {base : Heap} {ad : Nat → Addr} {fd : Nat → FuncData}
theorem ok__law_other (T : Txt K mg ad fd) : FnOk P w K mg base CX0 3 (ad 74) (fd 74) ["_law_tape_here", "_law_web"] (spOther K) := by
  refine T.F__law_other.ok sc__law_other (fun vs H Q E h => ?_) (fun cdv A outer s H vs Q E hr h => ?_)
  · obtain ⟨S, p, v, n, rows, rfl, _⟩ := h
    rfl
  · obtain ⟨S, p, v, n, rows, rfl, st, hv, wo, k⟩ := h
    refine ⟨_, (pss_cons (ps_set (i := 2) sc__law_other.nd rfl (Or.inl rfl) (pe_ix (ixT K) (pv 1) pe_int (fun _ _ => rfl)))
  (pss_cons (ps_set (i := 3) sc__law_other.nd rfl (Or.inr rfl) (pe_call (ok__law_line T) (hr.mono (by decide)) rfl T.m__law_line T.F__law_line.kp (b__law_line T) .nil pass0 (pa_cons (pv 0) (pa_cons (pv 2) pa_nil))))
  (pss_cons (ps_set (i := 4) sc__law_other.nd rfl (Or.inl rfl) (pe_call (ok__law_draw T) (hr.mono (by decide)) rfl T.m__law_draw T.F__law_draw.kp (b__law_draw T) .nil pass0 (pa_cons (pv 0) (pa_cons pe_int pa_nil))))
  (pss_cons (ps_set (i := 5) sc__law_other.nd rfl (Or.inl rfl) (pe_ix (ixT K) (pv 1) pe_int (fun _ _ => rfl)))
  (pss_cons (ps_if (PW.pt (pw_and (pt_cmpR op_eq (pv 4) pe_int (nomark _)) (pw_and (pt_cmpR op_gt (pv 2) pe_int (nomark _)) (pw_and1 (pt_cmpR op_lt (pe_callB (lenS K) (by rfl) T.g_len (by decide +kernel) (pa_cons (pv 5) pa_nil)) pe_int (nomark _)))))) (pss_one (ps_set (i := 5) sc__law_other.nd rfl (Or.inl rfl) (pe_op (catA K) (pv 5) (pe_tup (pa_cons (pe_callTy (tupOf K) (by rfl) T.g_tuple (by decide +kernel) (pa_cons (pe_callB (srtT K) (by rfl) T.g_sorted (by decide +kernel) (pa_cons (pe_slice (slA K) (pv 3) po_none (po_some (pe_op op_add pe_int (pe_call (ok__law_draw T) (hr.mono (by decide)) rfl T.m__law_draw T.F__law_draw.kp (b__law_draw T) .nil pass0 (pa_cons (pv 0) (pa_cons (pe_callB (call_min2 rfl) (by rfl) T.g_min (by decide +kernel) (pa_cons pe_int (pa_cons (pe_op op_sub (pv 2) pe_int) pa_nil))) pa_nil)))))) pa_nil)) pa_nil)) pa_nil)))))
  pss_nil)
  (pss_cons (ps_if (pt_cmpR op_eq (pv 4) pe_int (nomark _)) (pss_one (ps_set (i := 5) sc__law_other.nd rfl (Or.inl rfl) (pe_slice (slA K) (pv 5) (po_some pe_int) po_none)))
  pss_nil)
  (pss_cons (ps_if (pt_cmpR op_eq (pv 4) pe_int (nomark _)) (pss_one (ps_set (i := 5) sc__law_other.nd rfl (Or.inl rfl) (pe_callTy (tupOf K) (by rfl) T.g_tuple (by decide +kernel) (pa_cons (pe_lc (own := [("_law_row", 6)]) (g := gName 6) rfl sc__law_other.nd (piT K (pv 5)) (blkOk_by (N := ["_law_tape_here", "_law_web", "_law_size", "_law_names", "_law_pick", "_law_lists", "_law_row", "_law_x"]) (sc := defScope s__law_other) (by decide +kernel)) (fun _ _ _ _ _ => (pg_name (i := 6) (x := "_law_row") sc__law_other.nd rfl (Or.inl rfl))) (fun _ _ _ _ _ => pts_nil) (fun _ _ _ _ _ => (pe_callTy (tupOf K) (by rfl) T.g_tuple (by decide +kernel) (pa_cons (pe_callB (srtI K) (by rfl) T.g_sorted (by decide +kernel) (pa_cons (pe_lc (own := [("_law_x", 7)]) (g := gName 7) rfl sc__law_other.nd (piT K (pv 6)) (blkOk_by (N := ["_law_tape_here", "_law_web", "_law_size", "_law_names", "_law_pick", "_law_lists", "_law_row", "_law_x"]) (sc := { kind := PySem.ScopeKind.function, names := [ (PySem.Str.ofString ".0", PySem.NameKind.local), (PySem.Str.ofString "_law_row", PySem.NameKind.local), (PySem.Str.ofString "tuple", PySem.NameKind.globalImplicit), (PySem.Str.ofString "sorted", PySem.NameKind.globalImplicit), (PySem.Str.ofString "_law_names", PySem.NameKind.cell)], isGenerator := false, isCoroutine := false, more := [] : PySem.Scope }) (by decide +kernel)) (fun _ _ _ _ _ => (pg_name (i := 7) (x := "_law_x") sc__law_other.nd rfl (Or.inl rfl))) (fun _ _ _ _ _ => pts_nil) (fun _ _ _ _ _ => (pe_ix (ixT K) (pv 3) (pv 7) (fun _ _ => rfl)))) pa_nil)) pa_nil)))) pa_nil))))
  pss_nil)
  (pss_cons (ps_if (pt_cmpR op_eq (pv 4) pe_int (nomark _)) (pss_one (ps_set (i := 5) sc__law_other.nd rfl (Or.inl rfl) (pe_revT K (pv 5))))
  pss_nil)
  (pss_cons (ps_if (PW.pt (pw_and (pt_cmpR op_eq (pv 4) pe_int (nomark _)) (pw_and1 (pt_cmpR op_gt (pv 2) pe_int (nomark _))))) (pss_one (ps_set (i := 5) sc__law_other.nd rfl (Or.inl rfl) (pe_tup (pa_cons (pe_callTy (tupOf K) (by rfl) T.g_tuple (by decide +kernel) (pa_cons (pe_callB (srtT K) (by rfl) T.g_sorted (by decide +kernel) (pa_cons (pe_slice (slA K) (pv 3) po_none (po_some pe_int)) pa_nil)) pa_nil)) (pa_cons (pe_callTy (tupOf K) (by rfl) T.g_tuple (by decide +kernel) (pa_cons (pe_callB (srtT K) (by rfl) T.g_sorted (by decide +kernel) (pa_cons (pe_slice (slA K) (pv 3) (po_some (pe_op op_sub (pv 2) (pe_callB (call_min2 rfl) (by rfl) T.g_min (by decide +kernel) (pa_cons (pv 2) (pa_cons pe_int pa_nil))))) po_none) pa_nil)) pa_nil)) pa_nil)))))
  pss_nil)
  (pss_cons (ps_if (PW.pt (pw_and (pt_cmpR op_gt (pv 2) pe_int (nomark _)) (pw_and1 (pt_cmpR op_eq (pv 4) pe_int (nomark _))))) (pss_one (ps_set (i := 5) sc__law_other.nd rfl (Or.inl rfl) (pe_op (catA K) (pe_slice (slA K) (pe_ix (ixT K) (pv 1) pe_int (fun _ _ => rfl)) (po_some pe_int) po_none) (pe_slice (slA K) (pe_ix (ixT K) (pv 1) pe_int (fun _ _ => rfl)) po_none (po_some pe_int)))))
  pss_nil)
  (pss_one (ps_ret (pe_tup (pa_cons (pv 2) (pa_cons (pv 5) pa_nil))))))))))))))), ?_⟩
    obtain ⟨b, L, xs, rfl, hb, hL, hz, hr2⟩ := rp_book hv
    have lx : xs.length = rows.length := by rw [hr2.length, List.length_map]
    have wn := wo.1
    have wn2 := wo.2.1
    have wr := wo.2.2.1
    have hb0 := seqT (hide_same S H) hb
    refine ⟨_, rfl, b, _, 0, _, rfl, rfl, hb0, rfl, ?_⟩
    refine ⟨_, rfl, _, rfl, S, p, n, rfl, st, by omega, by omega, fun a names H1 m1 tn pm => ?_⟩
    have ln := pm.length_eq
    rw [rgI_length] at ln
    refine ⟨_, rfl, S, p, _, rfl, m1.ok, by decide, by decide, fun pk H2 q0 q1 m2 => ?_⟩
    have m12 := m1.trans m2
    refine ⟨_, rfl, b, _, 1, _, rfl, rfl, seqT (m12.same.trans (hide_same S H2)) hb, rfl, ?_⟩
    let G : L2.St → Hp → Prop := fun σ' H' => ∃ (vl : V) (rows' : List (List Int)) (v6 v7 : Option V), σ' = [some (.ref S), some (.ref b), some (.int n), some (.ref a), some (.int pk), some vl, v6, v7] ∧ Mv S p H2 H' ∧ Rp K (hide S H') vl (.tuple (rows'.map dTup)) ∧ RowsOk n rows'
    have g0 : G [some (.ref S), some (.ref b), some (.int n), some (.ref a), some (.int pk), some (.ref L), none, none] H2 :=
      ⟨_, rows, _, _, rfl, Mv.refl m12.ok, .tup (seqT m12.same hL) hz (hr2.same m12.same), wo.rows⟩
    dsimp only [gName, tSeq, tAsg, tRet, tNoPart]
    -- pick == 0
    refine tIf_join G (fun σ' H3 ⟨vl, r3, v6, v7, e3, m3, rl, ro⟩ => ?_) (fun hn => ?_)
    rotate_left
    · refine ⟨_, rfl, rfl, _, rfl, ?_⟩
      cases decide (V.int pk = V.int 0) with
      | false => exact iteF (hn _ _ g0)
      | true =>
        refine iteT ⟨_, rfl, _, _, rfl, rfl, _, rfl, ?_⟩
        by_cases c : (1 : Int) < n
        rotate_left
        · rw [decide_eq_false c]
          exact iteF (hn _ _ g0)
        rw [decide_eq_true c]
        have hL2 := seqT (m12.same.trans (hide_same S H2)) hL
        refine iteT ⟨_, rfl, L, _, rfl, .inr hL2, _, _, rfl, rfl, _, rfl, ?_⟩
        by_cases c8 : ((xs.length : Nat) : Int) < 8
        rotate_left
        · rw [decide_eq_false c8]
          exact iteF (hn _ _ g0)
        rw [decide_eq_true c8]
        refine iteT ⟨_, rfl, _, rfl, _, rfl, _, rfl, _, _, rfl, rfl, _, _, rfl, S, p, _, rfl, m12.ok, ?_, ?_, fun e H3 e0 e1 m3 => ⟨_, _, rfl, rfl, _, rfl, ?_⟩⟩
        · split <;> omega
        · split <;> omega
        have em : 2 + e ≤ n := by
          split at e1 <;> omega
        have tn3 := ((m2.trans m3).ti tn).show
        refine slA_use tn3.1.1 fun q1 H4 s4 t4 => ?_
        rw [cutI_take (by omega) (by omega)] at t4
        refine ⟨q1, _, rfl, t4, fun ns' q2 pm' pw' hq2 => ?_⟩
        have es := srt_eq pm' pw'
        subst es
        have s5 := same_upd (o := .lst ((srt (names.take (2 + e).toNat)).map V.int)) hq2
        dsimp only [tNil]
        refine tupL_use (SqL.of upd_same) fun q3 H6 s6 t6 => ⟨(by show 1 ≤ sizeLine; decide), fun q4 hq4 => ?_⟩
        have s7 := same_upd (o := .tup [V.ref q3]) hq4
        have m7 := m3.then (s4.trans (s5.trans (s6.trans s7)))
        have hL7 := seqT ((m12.trans m7).same.trans (hide_same S _)) hL
        refine catA_use hL7 (SqT.of upd_same) (by show _ + 1 ≤ 2000; omega) fun q5 H8 s8 t8 => ?_
        have m8 := m7.then s8
        obtain ⟨zs, hS8⟩ := m8.ok.atS
        have t67 := seqT (s7.trans s8) t6
        refine hn _ _ ⟨_, rows ++ [srt (names.take (2 + e).toNat)], _, _, rfl, m8, .tup (seqT_hide hS8 t8) (by rw [List.length_append, List.length_singleton]; omega) ?_, ?_, ?_⟩
        · rw [List.map_append]
          refine (hr2.same (m12.trans m8).same).app (.one ?_)
          exact rp_hide m8.ok (noL_dTup _) (TupI.rp ⟨t67, by rw [srt_length, List.length_take]; omega⟩)
        · rw [List.length_append, List.length_singleton]
          omega
        · intro r hr
          rcases List.mem_append.mp hr with z | z
          · exact wo.2.2.2 r z
          · rw [List.mem_singleton.mp z]
            exact sub_ok pm (by omega) (List.take_sublist _ _) (by rw [List.length_take]; omega)
    subst e3
    clear g0
    have g0 : G [some (.ref S), some (.ref b), some (.int n), some (.ref a), some (.int pk), some vl, v6, v7] H3 := ⟨_, _, _, _, rfl, m3, rl, ro⟩
    -- pick == 1
    dsimp only [gName, tSeq, tAsg, tRet, tNoPart]
    refine tIf_join G (fun σ' H4 ⟨vl, r4, v6, v7, e4, m4, rl, ro⟩ => ?_) (fun hn => ?_)
    rotate_left
    · refine ⟨_, rfl, rfl, _, rfl, ?_⟩
      cases decide (V.int pk = V.int 1) with
      | false => exact iteF (hn _ _ g0)
      | true =>
        obtain ⟨L3, xs3, rfl, hL3, hz3, ra3⟩ := (rp_show rl).tupA
        refine iteT ⟨_, rfl, ?_⟩
        dsimp only [tNoPart]
        refine ⟨1, rfl, ?_⟩
        dsimp only [tNoPart]
        refine slA_use hL3 fun q H4 s4 t4 => ?_
        obtain ⟨rows', rr, sub, le⟩ := cutR (ra3.same s4) (some 1) none
        have hcl := cutV_length xs3 (some 1) none
        have m4 := m3.then s4
        obtain ⟨zs, hS4⟩ := m4.ok.atS
        refine hn _ _ ⟨_, rows', _, _, rfl, m4, rp_hide m4.ok (noLs_rows _) (.tup t4 (by omega) rr), ?_, fun r hr => ro.2 r (sub r hr)⟩
        have := ro.1
        omega
    subst e4
    clear g0
    have g0 : G [some (.ref S), some (.ref b), some (.int n), some (.ref a), some (.int pk), some vl, v6, v7] H4 := ⟨_, _, _, _, rfl, m4, rl, ro⟩
    -- pick == 2
    dsimp only [gName, tSeq, tAsg, tRet, tNoPart]
    refine tIf_join G (fun σ' H5 ⟨vl, r5, v6, v7, e5, m5, rl, ro⟩ => ?_) (fun hn => ?_)
    rotate_left
    · refine ⟨_, rfl, rfl, _, rfl, ?_⟩
      cases decide (V.int pk = V.int 2) with
      | false => exact iteF (hn _ _ g0)
      | true =>
        obtain ⟨L3, xs3, rfl, hL3, hz3, ra3⟩ := (rp_show rl).tupA
        have lx3 : xs3.length = r4.length := by rw [ra3.length, List.length_map]
        have tn4 := ((m2.trans m4).ti tn).show
        have hr8 := ro.1
        refine iteT ⟨_, rfl, L3, rfl, ⟨_, hL3⟩, fun D hD => ?_⟩
        refine lcT (K := K) (xs := xs3) (fun _ => true) (fun j => dTup (srt (labels names (r4.getD j [])))) hD hL3 hz3 (fun _ _ _ => noL_dTup _) (fun j x H5 hj s5 Q1 Q2 k1 k2 => ?_) (fun ys H5 s5 hy r5 => ?_)
        · obtain ⟨ns, a2, hn2, rfl, t⟩ := ra3.row hj
          have t := t.same s5
          have en : r4.getD j [] = ns := by rw [List.getD_eq_getElem?_getD, hn2]; rfl
          rw [en] at k1
          have hns := ro.2 ns (List.mem_of_getElem? hn2)
          refine ⟨rfl, _, rfl, a2, rfl, ⟨_, t.1⟩, fun D3 hD3 => ?_⟩
          refine lcT (K := K) (xs := ns.map V.int) (fun _ => true) (fun j => .int (names.getD (ns.getD j 0).toNat 0)) hD3 t.1 (by rw [List.length_map]; exact t.2) (fun _ _ _ => rfl) (fun z v H6 hz6 s6 Q5 Q6 k5 k6 => ?_) (fun zs H6 s6 hz6 r6 => ?_)
          · obtain ⟨i, hi, rfl⟩ := lab_at hz6
            have eg := getD_at hi
            rw [eg] at k5
            have hb := hns.2.2 i (List.mem_of_getElem? hi)
            exact ⟨rfl, _, rfl, _, rfl, a, _, _, _, rfl, rfl, (tn4.same (s5.trans s6)).1.1, at_of (j := i.toNat) (by omega) (mapD (by omega)), k5 rfl _ _ (Same.refl _) (.int _)⟩
          · rw [filter_true] at r6
            have ez : (List.range (ns.map V.int).length).map (fun j => PyData.int (names.getD (ns.getD j 0).toNat 0)) = (labels names ns).map PyData.int := by
              rw [List.length_map]
              unfold labels
              rw [List.map_map]
              exact map_range (fun x : Int => PyData.int (names.getD x.toNat 0)) 0 ns
            rw [ez] at r6
            have := r6.ofInts
            subst this
            dsimp only [tNil]
            refine ⟨D3, labels names ns, rfl, SqL.of hz6, fun ns' q pm' pw' hq => ?_⟩
            have es := srt_eq pm' pw'
            subst es
            have s7 := same_upd (o := .lst ((srt (labels names ns)).map V.int)) hq
            refine tupL_use (SqL.of upd_same) fun q2 H8 s8 hq2 => k1 rfl _ _ (s6.trans (s7.trans s8)) (TupI.rp ⟨hq2, ?_⟩)
            rw [srt_length]
            unfold labels
            rw [List.length_map]
            exact t.2
        · rw [filter_true] at r5
          have ez : (List.range xs3.length).map (fun j => dTup (srt (labels names (r4.getD j [])))) = (relab names r4).map dTup := by
            rw [lx3]
            unfold relab
            rw [List.map_map]
            exact map_range (fun r : List Int => dTup (srt (labels names r))) [] r4
          rw [ez] at r5
          have ly : ys.length = r4.length := by rw [r5.length, List.length_map]; unfold relab; rw [List.length_map]
          dsimp only [tNil]
          refine tupL_use (SqL.of hy) fun q H6 s6 hq => ?_
          have m6 := m4.then (s5.trans s6)
          refine hn _ _ ⟨_, relab names r4, _, _, rfl, m6, rp_hide m6.ok (noLs_rows _) (.tup hq (by omega) (r5.same s6)), by unfold relab; rw [List.length_map]; exact hr8, fun r hr => ?_⟩
          unfold relab at hr
          obtain ⟨r0, hr0, rfl⟩ := List.mem_map.mp hr
          have h0 := ro.2 r0 hr0
          exact relab_ok pm (by omega) (h0.1.imp fun h => by omega) h0.2.1 h0.2.2
    subst e5
    clear g0
    have g0 : G [some (.ref S), some (.ref b), some (.int n), some (.ref a), some (.int pk), some vl, v6, v7] H5 := ⟨_, _, _, _, rfl, m5, rl, ro⟩
    -- pick == 3
    dsimp only [gName, tSeq, tAsg, tRet, tNoPart]
    refine tIf_join G (fun σ' H6 ⟨vl, r6, v6, v7, e6, m6, rl, ro⟩ => ?_) (fun hn => ?_)
    rotate_left
    · refine ⟨_, rfl, rfl, _, rfl, ?_⟩
      cases decide (V.int pk = V.int 3) with
      | false => exact iteF (hn _ _ g0)
      | true =>
        obtain ⟨L3, xs3, rfl, hL3, hz3, ra3⟩ := (rp_show rl).tupA
        refine iteT ⟨_, rfl, L3, xs3, rfl, hL3, fun q hq => ?_⟩
        have s6 := same_upd (o := .tup xs3.reverse) hq
        have m6 := m5.then s6
        refine hn _ _ ⟨_, r5.reverse, _, _, rfl, m6, rp_hide m6.ok (noLs_rows _) (.tup (SqT.of upd_same) (by rw [List.length_reverse]; exact hz3) (by rw [List.map_reverse]; exact (ra3.same s6).reverse)), by rw [List.length_reverse]; exact ro.1, fun r hr => ro.2 r (List.mem_reverse.mp hr)⟩
    subst e6
    clear g0
    have g0 : G [some (.ref S), some (.ref b), some (.int n), some (.ref a), some (.int pk), some vl, v6, v7] H6 := ⟨_, _, _, _, rfl, m6, rl, ro⟩
    -- pick == 4
    dsimp only [gName, tSeq, tAsg, tRet, tNoPart]
    refine tIf_join G (fun σ' H7 ⟨vl, r7, v6, v7, e7, m7, rl, ro⟩ => ?_) (fun hn => ?_)
    rotate_left
    · refine ⟨_, rfl, rfl, _, rfl, ?_⟩
      cases decide (V.int pk = V.int 4) with
      | false => exact iteF (hn _ _ g0)
      | true =>
        refine iteT ⟨_, rfl, _, _, rfl, rfl, _, rfl, ?_⟩
        by_cases c : (1 : Int) < n
        rotate_left
        · rw [decide_eq_false c]
          exact iteF (hn _ _ g0)
        rw [decide_eq_true c]
        have tn6 := ((m2.trans m6).ti tn).show
        refine iteT ⟨_, rfl, 2, rfl, ?_⟩
        refine slA_use tn6.1.1 fun q1 H7 s7 t7 => ?_
        rw [cutI_take (by omega) (by omega)] at t7
        refine ⟨q1, _, rfl, t7, fun ns' q2 pm' pw' hq2 => ?_⟩
        have es := srt_eq pm' pw'
        subst es
        have s8 := same_upd (o := .lst ((srt (names.take (2 : Int).toNat)).map V.int)) hq2
        dsimp only [tNil]
        refine tupL_use (SqL.of upd_same) fun q3 H9 s9 t9 => ?_
        have s69 := s7.trans (s8.trans s9)
        refine ⟨_, rfl, _, rfl, _, rfl, _, _, rfl, _, _, rfl, rfl, _, rfl, ?_⟩
        dsimp only [tNoPart, tNil]
        refine slA_use (tn6.same s69).1.1 fun p1 H10 s10 t10 => ?_
        have hmin : (0 : Int) ≤ n - (if (4 : Int) < n then 4 else n) ∧ n - (if (4 : Int) < n then 4 else n) + 2 ≤ n := by
          split <;> omega
        rw [cutI_drop hmin.1 (by omega)] at t10
        refine ⟨p1, _, rfl, t10, fun ns' p2 pm' pw' hp2 => ?_⟩
        have es := srt_eq pm' pw'
        subst es
        have s11 := same_upd (o := .lst ((srt (names.drop (n - (if (4 : Int) < n then 4 else n)).toNat)).map V.int)) hp2
        refine tupL_use (SqL.of upd_same) fun p3 H12 s12 t12 => ⟨(by show 2 ≤ sizeLine; decide), fun q4 hq4 => ?_⟩
        have s13 := same_upd (o := .tup [V.ref q3, V.ref p3]) hq4
        have m13 := m6.then (s69.trans (s10.trans (s11.trans (s12.trans s13))))
        refine hn _ _ ⟨_, [srt (names.take (2 : Int).toNat), srt (names.drop (n - (if (4 : Int) < n then 4 else n)).toNat)], _, _, rfl, m13, rp_hide m13.ok (noLs_rows _) (.tup (SqT.of upd_same) (by show 2 ≤ 1000; decide) (.two (TupI.rp ⟨seqT (s10.trans (s11.trans (s12.trans s13))) t9, ?_⟩) (TupI.rp ⟨seqT s13 t12, ?_⟩))), by show 2 ≤ 8; decide, fun r hr => ?_⟩
        · rw [srt_length, List.length_take]
          omega
        · rw [srt_length, List.length_drop]
          omega
        · rcases List.mem_cons.mp hr with z | z
          · rw [z]
            exact sub_ok pm (by omega) (List.take_sublist _ _) (by rw [List.length_take]; show 2 ≤ min 2 _; omega)
          · rw [List.mem_singleton.mp z]
            exact sub_ok pm (by omega) (List.drop_sublist _ _) (by rw [List.length_drop]; omega)
    subst e7
    clear g0
    have g0 : G [some (.ref S), some (.ref b), some (.int n), some (.ref a), some (.int pk), some vl, v6, v7] H7 := ⟨_, _, _, _, rfl, m7, rl, ro⟩
    -- size > 6
    dsimp only [gName, tSeq, tAsg, tRet, tNoPart]
    refine tIf_join G (fun σ' H8 ⟨vl, r8, v6, v7, e8, m8, rl, ro⟩ => ?_) (fun hn => ?_)
    rotate_left
    · refine ⟨_, rfl, _, _, rfl, rfl, _, rfl, ?_⟩
      cases decide ((6 : Int) < n) with
      | false => exact iteF (hn _ _ g0)
      | true =>
        refine iteT ⟨_, rfl, rfl, _, rfl, ?_⟩
        cases decide (V.int pk = V.int 0) with
        | false => exact iteF (hn _ _ g0)
        | true =>
          have s07 : Same (hide S H) H7 := (m12.trans m7).same.trans (hide_same S H7)
          have hb7 := seqT s07 hb
          have hL7 := seqT s07 hL
          refine iteT ⟨_, rfl, b, _, 1, _, rfl, rfl, hb7, rfl, 1, rfl, ?_⟩
          dsimp only [tNoPart, tNil]
          refine slA_use hL7 fun q1 H8 s8 t8 => ?_
          refine ⟨_, rfl, b, _, 1, _, rfl, rfl, seqT s8 hb7, rfl, 1, rfl, ?_⟩
          dsimp only [tNoPart, tNil]
          refine slA_use (seqT s8 hL7) fun q2 H9 s9 t9 => ?_
          have htl := turn_len xs
          refine catA_use (seqT s9 t8) t9 (by omega) fun q3 H10 s10 t10 => ?_
          have m10 := m7.then (s8.trans (s9.trans s10))
          have ra10 := hr2.same (s07.trans (s8.trans (s9.trans s10)))
          obtain ⟨ra, rra, suba, lea⟩ := cutR ra10 (some 1) none
          obtain ⟨rb, rrb, subb, leb⟩ := cutR ra10 none (some 1)
          have la := rra.length
          have lb := rrb.length
          rw [List.length_map] at la lb
          refine hn _ _ ⟨_, ra ++ rb, _, _, rfl, m10, rp_hide m10.ok (noLs_rows _) (.tup t10 (by rw [List.length_append]; omega) (by rw [List.map_append]; exact rra.app rrb)), by rw [List.length_append]; omega, fun r hr => ?_⟩
          rcases List.mem_append.mp hr with z | z
          · exact wo.2.2.2 r (suba r z)
          · exact wo.2.2.2 r (subb r z)
    subst e8
    obtain ⟨L8, xs8, rfl, hL8, hz8, ra8⟩ := (rp_show rl).tupA
    refine ⟨_, rfl, _, rfl, (by show 2 ≤ sizeLine; decide), fun q hq => ?_⟩
    have s9 := same_upd (o := .tup [V.int n, V.ref L8]) hq
    have m9 := (m12.trans m8).then s9
    exact k _ r8 _ m9 (rp_hide m9.ok (noL_book _ _) (rp_bookNew hL8 hz8 ra8 hq)) ⟨wn, wn2, ro.1, ro.2⟩
end
end LK
namespace LK
open PySem PySem.Spec PyProof.Rows L2
/-! the order of a list at what a line turns -/
variable {n : Int} {rows : List (List Int)} {line : List Int}
theorem filter_len_le {α : Type} {p q : α → Bool} : ∀ {l : List α}, (∀ x ∈ l, p x = true → q x = true) → (l.filter p).length ≤ (l.filter q).length
  | [], _ => Nat.le_refl _
  | x :: l, h => by
    have ih := filter_len_le (p := p) (q := q) (l := l) fun y hy => h y (by simp [hy])
    rw [List.filter_cons, List.filter_cons]
    cases c : p x with
    | true =>
      rw [h x (by simp) c, if_pos rfl, if_pos rfl, List.length_cons, List.length_cons]
      omega
    | false =>
      rw [if_neg Bool.false_ne_true]
      split
      · rw [List.length_cons]
        omega
      · exact ih
theorem filter_len_lt {α : Type} {p q : α → Bool} {a : α} : ∀ {l : List α}, (∀ x ∈ l, p x = true → q x = true) → a ∈ l → p a = false → q a = true → (l.filter p).length < (l.filter q).length
  | [], _, ha, _, _ => by cases ha
  | x :: l, h, ha, h1, h2 => by
    have hl : ∀ y ∈ l, p y = true → q y = true := fun y hy => h y (by simp [hy])
    rw [List.filter_cons, List.filter_cons]
    rcases List.mem_cons.mp ha with rfl | ha
    · rw [h1, h2, if_neg Bool.false_ne_true, if_pos rfl, List.length_cons]
      have := filter_len_le hl
      omega
    · have ih := filter_len_lt hl ha h1 h2
      cases c : p x with
      | true =>
        rw [h x (by simp) c, if_pos rfl, if_pos rfl, List.length_cons, List.length_cons]
        omega
      | false =>
        rw [if_neg Bool.false_ne_true]
        split
        · rw [List.length_cons]
          omega
        · exact ih
/-- unlike things, each two tied -/
def Cliq (n : Int) (rows : List (List Int)) (r : List Int) : Prop := r.Nodup ∧ (∀ x ∈ r, 0 ≤ x ∧ x < n) ∧ ∀ x ∈ r, ∀ y ∈ r, tiedB rows x y = true
theorem row_cliq {r : List Int} (hr : r ∈ rows) (h : RowOk n r) : Cliq n rows r := by
  refine ⟨h.1.imp fun h => by omega, h.2.2, fun x hx y hy => ?_⟩
  unfold tiedB
  exact List.any_eq_true.mpr ⟨r, hr, by rw [decide_eq_true hx, decide_eq_true hy]; rfl⟩
theorem rank_eq (hin : RowsIn n rows) (hL : Ln n line) {r : List Int} (hr : Cliq n rows r) {x : Int} (hx : x ∈ r) : rankOf (ledM n rows (fitT n rows line)) r x = (r.filter fun o => decide (line.idxOf o < line.idxOf x)).length := by
  unfold rankOf
  congr 1
  refine List.filter_congr fun o ho => ?_
  have h1 := hr.2.1 x hx
  have h2 := hr.2.1 o ho
  rw [edge_led hin, Int.toNat_of_nonneg h2.1, Int.toNat_of_nonneg h1.1, decide_eq_true h2.2, Bool.true_and]
  have hled := led_fit (rows := rows) hL (x := o.toNat) (y := x.toNat) (by omega) (by omega)
  rw [Int.toNat_of_nonneg h2.1, Int.toNat_of_nonneg h1.1, hr.2.2 o ho x hx, Bool.and_true] at hled
  rw [hled]
  by_cases e : o = x
  · subst e
    simp
  · rw [decide_eq_true (show o.toNat ≠ x.toNat by omega), Bool.true_and]
theorem order_perm (hL : Ln n line) {r : List Int} (hr : Cliq n rows r) : (line.filter fun x => decide (x ∈ r)).Perm r := by
  refine (List.perm_ext_iff_of_nodup (hL.nd.sublist List.filter_sublist) hr.1).mpr fun x => ?_
  rw [List.mem_filter, decide_eq_true_eq]
  exact ⟨fun z => z.2, fun z => ⟨hL.mem.mpr (hr.2.1 x z), z⟩⟩
theorem order_eq (hin : RowsIn n rows) (h64 : n ≤ 64) (hL : Ln n line) {r : List Int} (hr : Cliq n rows r) : orderT (ledM n rows (fitT n rows line)) r = line.filter fun x => decide (x ∈ r) := by
  have pm := order_perm (n := n) (rows := rows) hL hr
  unfold orderT
  have key : (line.filter fun x => decide (x ∈ r)).map (fun x => [((rankOf (ledM n rows (fitT n rows line)) r x : Nat) : Int), x]) = srtP (r.map fun x => [((rankOf (ledM n rows (fitT n rows line)) r x : Nat) : Int), x]) := by
    refine srtP_eq (pm.map _) ?_ ?_
    · rw [List.pairwise_map]
      have hp : (line.filter fun x => decide (x ∈ r)).Pairwise fun a b => line.idxOf a < line.idxOf b := (idx_pwl hL.nd).sublist List.filter_sublist
      refine List.Pairwise.imp_of_mem (fun {a b} ha hb hab => ?_) hp
      have ha := pm.mem_iff.mp ha
      have hb := pm.mem_iff.mp hb
      have na := hr.2.1 a ha
      have nb := hr.2.1 b hb
      rw [code_two, code_two, rank_eq hin hL hr ha, rank_eq hin hL hr hb]
      have := filter_len_lt (l := r) (p := fun o => decide (line.idxOf o < line.idxOf a)) (q := fun o => decide (line.idxOf o < line.idxOf b)) (a := a) (fun o _ ho => decide_eq_true (by have := of_decide_eq_true ho; omega)) ha (decide_eq_false (Nat.lt_irrefl _)) (decide_eq_true hab)
      omega
    · intro a ha b hb e
      obtain ⟨x, hx, rfl⟩ := List.mem_map.mp ha
      obtain ⟨y, hy, rfl⟩ := List.mem_map.mp hb
      have na := hr.2.1 x hx
      have nb := hr.2.1 y hy
      rw [code_two, code_two] at e
      have e2 : x = y := by omega
      rw [e2]
  rw [← key, List.map_map]
  have : ∀ x ∈ line.filter fun x => decide (x ∈ r), ((fun t : List Int => t.getD 1 0) ∘ fun x => [((rankOf (ledM n rows (fitT n rows line)) r x : Nat) : Int), x]) x = id x := fun x _ => rfl
  rw [List.map_congr_left this, List.map_id]
theorem ownOrders_eq (hin : RowsIn n rows) (h64 : n ≤ 64) (hL : Ln n line) (hr : ∀ r ∈ rows, RowOk n r) : ownOrdersX n rows (dRows (fitT n rows line)) = .ok (dRows (rows.map fun r => line.filter fun x => decide (x ∈ r))) := by
  unfold ownOrdersX
  rw [fit_sorting hin hL, toT_rows]
  simp only [if_true]
  congr 2
  exact List.map_congr_left fun r h => order_eq hin h64 hL (row_cliq h (hr r h))
theorem rowsOk_in (h : ∀ r ∈ rows, RowOk n r) : RowsIn n rows := fun r hr => (h r hr).2.2
/-! names dealt anew, one to one -/
/-- f deals the things below n anew -/
structure Deal (n : Int) (f g : Int → Int) : Prop where
  inn : ∀ x, 0 ≤ x → x < n → 0 ≤ f x ∧ f x < n
  inn2 : ∀ x, 0 ≤ x → x < n → 0 ≤ g x ∧ g x < n
  there : ∀ x, 0 ≤ x → x < n → g (f x) = x
  back : ∀ x, 0 ≤ x → x < n → f (g x) = x
def dealt (f : Int → Int) (rows : List (List Int)) : List (List Int) := rows.map fun r => srt (r.map f)
variable {f g : Int → Int}
theorem Deal.inv (D : Deal n f g) : Deal n g f := ⟨D.inn2, D.inn, D.back, D.there⟩
theorem Deal.inj (D : Deal n f g) {x y : Int} (hx : 0 ≤ x ∧ x < n) (hy : 0 ≤ y ∧ y < n) (e : f x = f y) : x = y := by rw [← D.there x hx.1 hx.2, e, D.there y hy.1 hy.2]
theorem deal_mem (D : Deal n f g) {r : List Int} (hr : ∀ x ∈ r, 0 ≤ x ∧ x < n) {x : Int} (hx : 0 ≤ x ∧ x < n) : f x ∈ srt (r.map f) ↔ x ∈ r := by
  rw [(srt_perm _).mem_iff, List.mem_map]
  constructor
  · rintro ⟨y, hy, e⟩
    rw [← D.inj (hr y hy) hx e]
    exact hy
  · intro h
    exact ⟨x, h, rfl⟩
theorem deal_tied (D : Deal n f g) (hin : RowsIn n rows) {x y : Int} (hx : 0 ≤ x ∧ x < n) (hy : 0 ≤ y ∧ y < n) : tiedB (dealt f rows) (f x) (f y) = tiedB rows x y := by
  unfold tiedB dealt
  rw [List.any_map]
  rw [Bool.eq_iff_iff, List.any_eq_true, List.any_eq_true]
  constructor
  · rintro ⟨r, hr, h⟩
    have h : (decide (f x ∈ srt (r.map f)) && decide (f y ∈ srt (r.map f))) = true := h
    rw [Bool.and_eq_true, decide_eq_true_eq, decide_eq_true_eq, deal_mem D (hin r hr) hx, deal_mem D (hin r hr) hy] at h
    exact ⟨r, hr, by rw [decide_eq_true h.1, decide_eq_true h.2]; rfl⟩
  · rintro ⟨r, hr, h⟩
    rw [Bool.and_eq_true, decide_eq_true_eq, decide_eq_true_eq] at h
    refine ⟨r, hr, ?_⟩
    show (decide (f x ∈ srt (r.map f)) && decide (f y ∈ srt (r.map f))) = true
    rw [decide_eq_true ((deal_mem D (hin r hr) hx).mpr h.1), decide_eq_true ((deal_mem D (hin r hr) hy).mpr h.2)]
    rfl
theorem map_nodup (D : Deal n f g) : ∀ {l : List Int}, (∀ x ∈ l, 0 ≤ x ∧ x < n) → l.Nodup → (l.map f).Nodup := fun {l} hl nd => by
  rw [List.nodup_iff_pairwise_ne, List.pairwise_map]
  exact List.Pairwise.imp_of_mem (R := fun a b => a ≠ b) (fun {a b} ha hb hab z => hab (D.inj (hl a ha) (hl b hb) z)) nd
theorem deal_rows (D : Deal n f g) (hr : ∀ r ∈ rows, RowOk n r) : ∀ r ∈ dealt f rows, RowOk n r := fun r h => by
  unfold dealt at h
  obtain ⟨r0, h0, rfl⟩ := List.mem_map.mp h
  have hr0 := hr r0 h0
  refine ⟨srt_lt (map_nodup D hr0.2.2 (hr0.1.imp fun h => by omega)), by rw [srt_length, List.length_map]; exact hr0.2.1, fun x hx => ?_⟩
  obtain ⟨y, hy, rfl⟩ := List.mem_map.mp ((srt_perm _).mem_iff.mp hx)
  have := hr0.2.2 y hy
  exact D.inn y this.1 this.2
theorem deal_ln (D : Deal n f g) (hL : Ln n line) : Ln n (line.map f) := by
  refine ln_of hL.2 (map_nodup D (fun x hx => hL.mem.mp hx) hL.nd) fun x => ?_
  rw [List.mem_map]
  constructor
  · rintro ⟨y, hy, rfl⟩
    have := hL.mem.mp hy
    exact D.inn y this.1 this.2
  · rintro ⟨h0, h1⟩
    have := D.inn2 x h0 h1
    exact ⟨g x, hL.mem.mpr this, D.back x h0 h1⟩
theorem deal_idx (D : Deal n f g) (hL : Ln n line) {x : Int} (hx : 0 ≤ x ∧ x < n) : (line.map f).idxOf (f x) = line.idxOf x := idx_map fun a ha e => D.inj (hL.mem.mp ha) hx e
/-- there and back -/
theorem deal_back (D : Deal n f g) (hr : ∀ r ∈ rows, RowOk n r) : dealt g (dealt f rows) = rows := by
  unfold dealt
  rw [List.map_map]
  have : ∀ r ∈ rows, ((fun r => srt (r.map g)) ∘ fun r => srt (r.map f)) r = id r := fun r h => by
    have hr0 := hr r h
    show srt ((srt (r.map f)).map g) = r
    symm
    refine srt_eq ?_ (hr0.1.imp fun h => by omega)
    have h1 : ((srt (r.map f)).map g).Perm ((r.map f).map g) := (srt_perm _).map g
    have h2 : (r.map f).map g = r := by
      rw [List.map_map]
      have : ∀ x ∈ r, (g ∘ f) x = id x := fun x hx => D.there x (hr0.2.2 x hx).1 (hr0.2.2 x hx).2
      rw [List.map_congr_left this, List.map_id]
    rw [h2] at h1
    exact h1.symm
  rw [List.map_congr_left this, List.map_id]
theorem deal_agree (D : Deal n f g) (hin : RowsIn n rows) {l1 l2 : List Int} (h1 : Ln n l1) (h2 : Ln n l2) (h : Agree n rows l1 l2) : Agree n (dealt f rows) (l1.map f) (l2.map f) := by
  intro x y hx hy e ht
  have gx := D.inn2 x (by omega) hx
  have gy := D.inn2 y (by omega) hy
  have ex : (x : Int) = f (g x) := (D.back x (by omega) hx).symm
  have ey : (y : Int) = f (g y) := (D.back y (by omega) hy).symm
  rw [ex, ey, deal_tied D hin gx gy] at ht
  rw [ex, ey, deal_idx D h1 gx, deal_idx D h1 gy, deal_idx D h2 gx, deal_idx D h2 gy]
  have e1 : (((g x).toNat : Nat) : Int) = g x := Int.toNat_of_nonneg gx.1
  have e2 : (((g y).toNat : Nat) : Int) = g y := Int.toNat_of_nonneg gy.1
  have := h (g x).toNat (g y).toNat (by omega) (by omega) (fun z => by
    have : g x = g y := by omega
    rw [this, ← ey] at ex
    omega) (by rw [e1, e2]; exact ht)
  rw [e1, e2] at this
  exact this
/-- the order of a row goes along -/
theorem deal_order (D : Deal n f g) (hL : Ln n line) {r : List Int} (hr : ∀ x ∈ r, 0 ≤ x ∧ x < n) : ((line.map f).filter fun x => decide (x ∈ srt (r.map f))) = (line.filter fun x => decide (x ∈ r)).map f := by
  rw [List.filter_map]
  congr 1
  refine List.filter_congr fun x hx => ?_
  exact decide_eq_decide.mpr (deal_mem D hr (hL.mem.mp hx))
end LK
namespace LK
open PySem PySem.Spec PyProof.Rows L2
variable {n : Int} {rows other : List (List Int)} {line basis : List Int} {f g : Int → Int}
theorem labels_map {names r : List Int} (h : ∀ x ∈ r, names.getD x.toNat 0 = f x) : labels names r = r.map f := List.map_congr_left h
theorem relab_dealt {names : List Int} (h : ∀ x, 0 ≤ x → x < n → names.getD x.toNat 0 = f x) (hin : RowsIn n rows) : relab names rows = dealt f rows :=
  List.map_congr_left fun r hr => by rw [labels_map fun x hx => h x (hin r hr x hx).1 (hin r hr x hx).2]
theorem renum_dealt {names : List Int} (h : ∀ x, 0 ≤ x → x < n → ((names.idxOf x : Nat) : Int) = f x) (hin : RowsIn n rows) : renum names rows = dealt f rows :=
  List.map_congr_left fun r hr => by
    congr 1
    exact List.map_congr_left fun x hx => h x (hin r hr x hx).1 (hin r hr x hx).2
theorem rgmap_get {x : Int} (h0 : 0 ≤ x) (h1 : x < n) : ((rgI n.toNat).map f).getD x.toNat 0 = f x := by
  rw [List.getD_eq_getElem?_getD, List.getElem?_map]
  unfold rgI
  rw [List.getElem?_map, List.getElem?_range (by omega)]
  show f ((x.toNat : Nat) : Int) = f x
  rw [Int.toNat_of_nonneg h0]
theorem rgmap_idx (D : Deal n f g) {y : Int} (h0 : 0 ≤ y) (h1 : y < n) : ((((rgI n.toNat).map f).idxOf y : Nat) : Int) = g y := by
  have hg := D.inn2 y h0 h1
  have := deal_idx D (ln_rg (by omega : (0 : Int) ≤ n)) hg
  rw [D.back y h0 h1] at this
  rw [this, idx_rg hg.1 (by omega)]
  omega
theorem isLine_ok (hL : Ln n line) : isLine n (dTup line) = true := by
  unfold isLine areUnlike
  rw [dInts_tup, decide_eq_true hL.nd, decide_eq_true hL.len]
  have : areBelow n (dTup line) = true := by
    show (line.map PyData.int).all (isBelow n) = true
    rw [List.all_map]
    exact List.all_eq_true.mpr fun x hx => by simpa [isBelow] using hL.mem.mp hx
  rw [this]
  rfl
theorem isBook_ok (h1 : 1 ≤ n) (hr : ∀ r ∈ rows, RowOk n r) : isBook (bookD n rows) = true := by
  show (decide (1 ≤ n) && (rows.map dTup).all (isListed n)) = true
  rw [decide_eq_true h1, List.all_map]
  refine List.all_eq_true.mpr fun r h => ?_
  have hr0 := hr r h
  show (isLot n (dTup r) && decide (2 ≤ (dInts (dTup r)).length)) = true
  rw [dInts_tup, decide_eq_true hr0.2.1, isLot_ok ⟨fun z => by rw [z] at hr0; have := hr0.2.1; simp at this, hr0.1, hr0.2.2⟩]
  rfl
theorem bRows_book (n : Int) (rows : List (List Int)) : bRows (bookD n rows) = rows := by
  show (rows.map dTup).map dInts = rows
  exact toT_rows rows
/-! mirrored -/
def mir (n x : Int) : Int := n - 1 - x
theorem mir_deal : Deal n (mir n) (mir n) := ⟨fun x h0 h1 => by unfold mir; omega, fun x h0 h1 => by unfold mir; omega, fun x h0 h1 => by unfold mir; omega, fun x h0 h1 => by unfold mir; omega⟩
theorem rev_idx (h : 0 ≤ n) {x : Int} (h0 : 0 ≤ x) (h1 : x < n) : (((revRange n.toNat).idxOf x : Nat) : Int) = mir n x := by
  have e0 : (revRange n.toNat)[(mir n x).toNat]? = some x := by
    unfold revRange
    rw [List.getElem?_map, List.getElem?_range (by unfold mir; omega)]
    show some ((n.toNat - 1 - (mir n x).toNat : Nat) : Int) = some x
    unfold mir
    congr 1
    omega
  have nd : (revRange n.toNat).Nodup := by
    unfold revRange
    rw [List.nodup_iff_pairwise_ne, List.pairwise_map]
    refine List.Pairwise.imp_of_mem (R := fun a b => a ≠ b) (fun {a b} ha hb hab z => ?_) List.nodup_range
    have := List.mem_range.mp ha
    have := List.mem_range.mp hb
    omega
  obtain ⟨hl, e1⟩ := List.getElem?_eq_some_iff.mp e0
  have := idxOf_get nd hl
  rw [e1] at this
  rw [this]
  unfold mir
  omega
theorem mirrored_eq (h : 0 ≤ n) (hin : RowsIn n rows) : mirroredB n rows = bookD n (dealt (mir n) rows) := by
  unfold mirroredB
  rw [renum_dealt (fun x h0 h1 => rev_idx h h0 h1) hin]
def mline (n : Int) (line : List Int) : List Int := (line.map (mir n)).reverse
theorem mline_ln (hL : Ln n line) : Ln n (mline n line) := (deal_ln mir_deal hL).rev
theorem mline_lt (hL : Ln n line) {x y : Nat} (hx : (x : Int) < n) (hy : (y : Int) < n) : (mline n line).idxOf (x : Int) < (mline n line).idxOf (y : Int) ↔ line.idxOf (mir n y) < line.idxOf (mir n x) := by
  unfold mline
  rw [rev_lt (deal_ln mir_deal hL) hx hy]
  have bx := mir_deal.back (n := n) (x : Int) (by omega) hx
  have by' := mir_deal.back (n := n) (y : Int) (by omega) hy
  have ix := deal_idx mir_deal hL (x := mir n x) (by unfold mir; omega)
  have iy := deal_idx mir_deal hL (x := mir n y) (by unfold mir; omega)
  rw [bx] at ix
  rw [by'] at iy
  rw [ix, iy]
theorem mir_fit (hin : RowsIn n rows) (h64 : n ≤ 64) (hL : Ln n line) : mirT n (fitT n rows line) = fitT n (dealt (mir n) rows) (mline n line) := by
  unfold mirT
  symm
  have bnd : ∀ {t : List Int}, t ∈ (fitT n rows line).map (fun t => [n - 1 - t.getD 1 0, n - 1 - t.getD 0 0]) → ∃ lo hi : Nat, t = [mir n hi, mir n lo] ∧ lo < hi ∧ (hi : Int) < n ∧ tiedB rows lo hi = true ∧ line.idxOf (hi : Int) < line.idxOf (lo : Int) := fun {t} ht => by
    obtain ⟨s, hs, rfl⟩ := List.mem_map.mp ht
    obtain ⟨lo, hi, rfl, h1⟩ := fit_mem.mp hs
    exact ⟨lo, hi, rfl, h1⟩
  refine srtP_eq ?_ ?_ ?_
  · refine (List.perm_ext_iff_of_nodup (fit_tiesIn).2 ?_).mpr fun t => ?_
    · rw [List.nodup_iff_pairwise_ne, List.pairwise_map]
      refine List.Pairwise.imp_of_mem (R := fun a b => a ≠ b) (fun {a b} ha hb hab z => hab ?_) (fit_tiesIn (n := n) (rows := rows) (line := line)).2
      obtain ⟨x, y, rfl⟩ := fit_prs _ _ _ a ha
      obtain ⟨u, v, rfl⟩ := fit_prs _ _ _ b hb
      injection z with z1 z2
      injection z2 with z2 _
      have z1 : n - 1 - y = n - 1 - v := z1
      have z2 : n - 1 - x = n - 1 - u := z2
      have e1 : y = v := by omega
      have e2 : x = u := by omega
      rw [e1, e2]
    · constructor
      · intro hz
        obtain ⟨a, b, rfl, h1, h2, h3, h4⟩ := fit_mem.mp hz
        rw [mline_lt hL h2 (by omega)] at h4
        have ga := mir_deal.inn (n := n) (a : Int) (by omega) (by omega)
        have gb := mir_deal.inn (n := n) (b : Int) (by omega) h2
        have ea := mir_deal.back (n := n) (a : Int) (by omega) (by omega)
        have eb := mir_deal.back (n := n) (b : Int) (by omega) h2
        rw [← ea, ← eb, deal_tied mir_deal hin ga gb] at h3
        refine List.mem_map.mpr ⟨[mir n b, mir n a], fit_mem.mpr ⟨(mir n b).toNat, (mir n a).toNat, ?_, ?_, ?_, ?_, ?_⟩, ?_⟩
        · rw [Int.toNat_of_nonneg ga.1, Int.toNat_of_nonneg gb.1]
        · unfold mir at *
          omega
        · omega
        · rw [Int.toNat_of_nonneg ga.1, Int.toNat_of_nonneg gb.1, tied_comm]
          exact h3
        · rw [Int.toNat_of_nonneg ga.1, Int.toNat_of_nonneg gb.1]
          exact h4
        · show [n - 1 - mir n a, n - 1 - mir n b] = _
          unfold mir
          have e1 : n - 1 - (n - 1 - (a : Int)) = a := by omega
          have e2 : n - 1 - (n - 1 - (b : Int)) = b := by omega
          rw [e1, e2]
      · intro hz
        obtain ⟨lo, hi, rfl, h1, h2, h3, h4⟩ := bnd hz
        have gl := mir_deal.inn (n := n) (lo : Int) (by omega) (by omega)
        have gh := mir_deal.inn (n := n) (hi : Int) (by omega) h2
        refine fit_mem.mpr ⟨(mir n hi).toNat, (mir n lo).toNat, ?_, ?_, ?_, ?_, ?_⟩
        · rw [Int.toNat_of_nonneg gl.1, Int.toNat_of_nonneg gh.1]
        · unfold mir at *
          omega
        · omega
        · rw [Int.toNat_of_nonneg gl.1, Int.toNat_of_nonneg gh.1, deal_tied mir_deal hin (by omega) (by omega), tied_comm]
          exact h3
        · rw [mline_lt hL (by omega) (by omega), Int.toNat_of_nonneg gl.1, Int.toNat_of_nonneg gh.1, mir_deal.there (n := n) (lo : Int) (by omega) (by omega), mir_deal.there (n := n) (hi : Int) (by omega) h2]
          exact h4
  · refine List.Pairwise.imp_of_mem (fun {s t} hs ht hst => ?_) (fit_pw n (dealt (mir n) rows) (mline n line))
    obtain ⟨a, b, rfl, h1, h2, _⟩ := fit_mem.mp hs
    obtain ⟨c, d, rfl, h3, h4, _⟩ := fit_mem.mp ht
    rw [code_two, code_two]
    rcases lex_iff.mp hst with z | ⟨z, z2⟩ <;> omega
  · intro s hs t ht e
    obtain ⟨a, b, rfl, h1, h2, _⟩ := bnd hs
    obtain ⟨c, d, rfl, h3, h4, _⟩ := bnd ht
    rw [code_two, code_two] at e
    unfold mir at *
    have e1 : (a : Int) = c := by omega
    have e2 : (b : Int) = d := by omega
    rw [e1, e2]
theorem mline_mline (hL : Ln n line) : mline n (mline n line) = line := by
  unfold mline
  rw [List.map_reverse, List.reverse_reverse, List.map_map]
  have : ∀ x ∈ line, (mir n ∘ mir n) x = id x := fun x hx => mir_deal.there x (hL.mem.mp hx).1 (hL.mem.mp hx).2
  rw [List.map_congr_left this, List.map_id]
theorem mirS_eq (hin : RowsIn n rows) (hL : Ln n line) : mirroredSX n rows (dRows (fitT n rows line)) = .ok (dRows (mirT n (fitT n rows line))) := by
  unfold mirroredSX
  rw [fit_sorting hin hL, toT_rows]
  rfl
theorem mirS_back (h64 : n ≤ 64) (hr : ∀ r ∈ rows, RowOk n r) (hL : Ln n line) : mirroredSX n (dealt (mir n) rows) (dRows (mirT n (fitT n rows line))) = .ok (dRows (fitT n rows line)) := by
  have hin := rowsOk_in hr
  have hin2 := rowsOk_in (deal_rows mir_deal hr)
  rw [mir_fit hin h64 hL, mirS_eq hin2 (mline_ln hL), mir_fit hin2 h64 (mline_ln hL), mline_mline hL, deal_back mir_deal hr]
theorem mir_orders (h64 : n ≤ 64) (hr : ∀ r ∈ rows, RowOk n r) (hL : Ln n line) : ownOrdersX n (dealt (mir n) rows) (dRows (mirT n (fitT n rows line))) = .ok (dRows (rows.map fun r => (line.reverse.filter fun x => decide (x ∈ r)).map (mir n))) := by
  have hin := rowsOk_in hr
  have hr2 := deal_rows mir_deal hr
  rw [mir_fit hin h64 hL, ownOrders_eq (rowsOk_in hr2) h64 (mline_ln hL) hr2]
  congr 2
  unfold dealt
  rw [List.map_map]
  refine List.map_congr_left fun r h => ?_
  show ((mline n line).filter fun x => decide (x ∈ srt (r.map (mir n)))) = _
  unfold mline
  rw [List.filter_reverse, deal_order mir_deal hL (hr r h).2.2, ← List.map_reverse, List.filter_reverse]
/-! rebased -/
def nth (l : List Int) (x : Int) : Int := l.getD x.toNat 0
def ixOf (l : List Int) (x : Int) : Int := ((l.idxOf x : Nat) : Int)
theorem base_deal (hL : Ln n basis) : Deal n (ixOf basis) (nth basis) := by
  have hl := hL.len
  refine ⟨fun x h0 h1 => ?_, fun x h0 h1 => ?_, fun x h0 h1 => ?_, fun x h0 h1 => ?_⟩
  · have := List.idxOf_lt_length_iff.mpr (hL.mem.mpr ⟨h0, h1⟩)
    unfold ixOf
    omega
  · exact hL.mem.mp (getD_mem (by omega))
  · unfold nth ixOf
    rw [Int.toNat_natCast]
    exact get_idx (hL.mem.mpr ⟨h0, h1⟩)
  · unfold nth ixOf
    have hi : x.toNat < basis.length := by omega
    have e : basis.getD x.toNat 0 = basis[x.toNat] := by rw [List.getD_eq_getElem?_getD, List.getElem?_eq_getElem hi]; rfl
    rw [e, idxOf_get hL.nd hi]
    omega
theorem renum_base (hin : RowsIn n rows) : renum basis rows = dealt (ixOf basis) rows := renum_dealt (n := n) (fun _ _ _ => rfl) hin
theorem rebased_eq (hL : Ln n basis) (hin : RowsIn n rows) : rebasedB n rows (dTup basis) = .ok (bookD n (dealt (ixOf basis) rows)) := by
  unfold rebasedB
  rw [isLine_ok hL, dInts_tup, renum_base hin]
  rfl
theorem idxL_map (basis l : List Int) : idxL basis l = l.map (ixOf basis) := rfl
theorem rebS_eq (hB : Ln n basis) (hin : RowsIn n rows) (hL : Ln n line) : rebasedSX n rows (dRows (fitT n rows line)) (dTup basis) = .ok (dRows (fitT n (dealt (ixOf basis) rows) (line.map (ixOf basis)))) := by
  unfold rebasedSX
  rw [fit_sorting hin hL, isLine_ok hB, dInts_tup, toT_rows, renum_base hin, idxL_map, fit_agree (deal_agree (base_deal hB) hin (ln_lineT hin hL) hL (lineT_agree hin hL))]
  rfl
theorem names_ln (hB : Ln n basis) : Ln n ((rgI n.toNat).map (ixOf basis)) := deal_ln (base_deal hB) (ln_rg hB.2)
theorem names_ix (hB : Ln n basis) {y : Int} (h0 : 0 ≤ y) (h1 : y < n) : ixOf ((rgI n.toNat).map (ixOf basis)) y = nth basis y := rgmap_idx (base_deal hB) h0 h1
theorem reb_names (hB : Ln n basis) (hin : RowsIn n rows) : relab ((rgI n.toNat).map (ixOf basis)) rows = dealt (ixOf basis) rows := relab_dealt (fun x h0 h1 => rgmap_get h0 h1) hin
theorem reb_back (hB : Ln n basis) (hr : ∀ r ∈ rows, RowOk n r) : rebasedB n (dealt (ixOf basis) rows) (dTup ((rgI n.toNat).map (ixOf basis))) = .ok (bookD n rows) := by
  unfold rebasedB
  rw [isLine_ok (names_ln hB), dInts_tup, renum_dealt (fun x h0 h1 => names_ix hB h0 h1) (rowsOk_in (deal_rows (base_deal hB) hr)), deal_back (base_deal hB) hr]
  rfl
theorem reb_sback (hB : Ln n basis) (hr : ∀ r ∈ rows, RowOk n r) (hL : Ln n line) : rebasedSX n (dealt (ixOf basis) rows) (dRows (fitT n (dealt (ixOf basis) rows) (line.map (ixOf basis)))) (dTup ((rgI n.toNat).map (ixOf basis))) = .ok (dRows (fitT n rows line)) := by
  have hin := rowsOk_in hr
  have hr2 := deal_rows (base_deal hB) hr
  have hin2 := rowsOk_in hr2
  rw [rebS_eq (names_ln hB) hin2 (deal_ln (base_deal hB) hL)]
  have e1 : dealt (ixOf ((rgI n.toNat).map (ixOf basis))) (dealt (ixOf basis) rows) = rows := by
    refine Eq.trans (List.map_congr_left fun r h => ?_) (deal_back (base_deal hB) hr)
    congr 1
    exact List.map_congr_left fun x hx => names_ix hB (hr2 r h |>.2.2 x hx).1 (hr2 r h |>.2.2 x hx).2
  have e2 : (line.map (ixOf basis)).map (ixOf ((rgI n.toNat).map (ixOf basis))) = line := by
    rw [List.map_map]
    have : ∀ x ∈ line, (ixOf ((rgI n.toNat).map (ixOf basis)) ∘ ixOf basis) x = id x := fun x hx => by
      have hx := hL.mem.mp hx
      have := (base_deal hB).inn x hx.1 hx.2
      show ixOf ((rgI n.toNat).map (ixOf basis)) (ixOf basis x) = x
      rw [names_ix hB this.1 this.2]
      exact (base_deal hB).there x hx.1 hx.2
    rw [List.map_congr_left this, List.map_id]
  rw [e1, e2]
theorem reb_self (hin : RowsIn n rows) (hL : Ln n line) : rebasedSX n rows (dRows (fitT n rows line)) (dTup line) = .ok (dRows []) := by
  rw [rebS_eq hL hin hL]
  congr 2
  refine List.filter_eq_nil_iff.mpr fun t ht => ?_
  obtain ⟨lo, hi, rfl, h1, h2, h3⟩ := tiesL_in ht
  intro z
  have z := of_decide_eq_true z
  have el : line.map (ixOf line) = rgI n.toNat := by
    refine List.ext_getElem? fun i => ?_
    rw [List.getElem?_map]
    have hl := hL.len
    by_cases c : i < line.length
    · rw [List.getElem?_eq_getElem c]
      unfold rgI
      rw [List.getElem?_map, List.getElem?_range (by omega)]
      show some (ixOf line line[i]) = some (i : Int)
      unfold ixOf
      rw [idxOf_get hL.nd c]
    · rw [List.getElem?_eq_none (by omega), List.getElem?_eq_none (by rw [rgI_length]; omega)]
      rfl
  have z : (line.map (ixOf line)).idxOf (hi : Int) < (line.map (ixOf line)).idxOf (lo : Int) := z
  rw [el, idx_rg (by omega) (by omega), idx_rg (by omega) (by omega)] at z
  omega
theorem reb_orders (hB : Ln n basis) (h64 : n ≤ 64) (hr : ∀ r ∈ rows, RowOk n r) (hL : Ln n line) : ownOrdersX n (dealt (ixOf basis) rows) (dRows (fitT n (dealt (ixOf basis) rows) (line.map (ixOf basis)))) = .ok (dRows (rows.map fun r => (line.filter fun x => decide (x ∈ r)).map (ixOf basis))) := by
  have hr2 := deal_rows (base_deal hB) hr
  rw [ownOrders_eq (rowsOk_in hr2) h64 (deal_ln (base_deal hB) hL) hr2]
  congr 2
  unfold dealt
  rw [List.map_map]
  refine List.map_congr_left fun r h => ?_
  exact deal_order (base_deal hB) hL (hr r h).2.2
/-! carried -/
theorem carried_eq (hin : RowsIn n rows) (hL : Ln n line) (h1 : 1 ≤ n) (ho : ∀ r ∈ other, RowOk n r) : carriedX n rows (dRows (fitT n rows line)) (bookD n other) = .ok (dRows (fitT n other (lineT n rows (fitT n rows line)))) := by
  unfold carriedX
  rw [fit_sorting hin hL, isBook_ok h1 ho, toT_rows, bRows_book]
  have : bSize (bookD n other) = n := rfl
  rw [this, decide_eq_true rfl]
  rfl
theorem carried_rev (hin : RowsIn n rows) (hL : Ln n line) (h1 : 1 ≤ n) (hr : ∀ r ∈ rows, RowOk n r) : carriedX n rows (dRows (fitT n rows line)) (bookD n rows.reverse) = .ok (dRows (fitT n rows line)) := by
  rw [carried_eq hin hL h1 fun r h => hr r (List.mem_reverse.mp h)]
  have e : fitT n rows.reverse (lineT n rows (fitT n rows line)) = fitT n rows (lineT n rows (fitT n rows line)) := by
    have tr : ∀ x y, tiedB rows.reverse x y = tiedB rows x y := fun x y => by
      unfold tiedB
      rw [List.any_reverse]
    refine lex_ext (fit_pw _ _ _) (fit_pw _ _ _) (fit_prs _ _ _) (fit_prs _ _ _) fun t => ?_
    rw [fit_mem, fit_mem]
    simp only [tr]
  rw [e, fit_lineT hin hL]
theorem sortingOf_eq (hL : Ln n line) : sortingOfX n other (dTup line) = .ok (dRows (fitT n other line)) := by
  unfold sortingOfX
  rw [isLine_ok hL, dInts_tup]
  rfl
end LK
namespace LK
open PySem PySem.Spec PyProof.Rows L2
/-! calls by keywords alone, named from the last parameter to the first -/
def kwRev {α : Type} (n : Nat) : List α → List α → List α
  | [], ws => if ws.length = n then ws.reverse else []
  | _ :: _, _ => []
theorem vals_rev {vs : List V} {us : List Value} (r : Vals vs us) : Vals vs.reverse us.reverse := r.reverse
theorem kw_rel {n : Nat} {vs : List V} {us : List Value} {zs : List V} {ws : List Value} (r : Vals vs us) (rz : Vals zs ws) : Vals (kwRev n vs zs) (kwRev n us ws) := by
  cases r with
  | nil =>
    show Vals (if zs.length = n then zs.reverse else []) (if ws.length = n then ws.reverse else [])
    rw [rz.length]
    split
    · exact rz.reverse
    · exact .nil
  | cons a b => exact .nil
theorem kw_inv {n : Nat} {us ws : List Value} (hn : 0 < n) (h : (kwRev n us ws).length = n) : us = [] ∧ ws.length = n := by
  cases us with
  | nil =>
    refine ⟨rfl, ?_⟩
    replace h : (if ws.length = n then ws.reverse else []).length = n := h
    by_cases c : ws.length = n
    · exact c
    · rw [if_neg c] at h
      exact absurd h (by show ¬ (0 = n); omega)
  | cons a l => exact absurd h (by show ¬ (0 = n); omega)
section
variable {K : PySem.W.Frag} {mg : Str → Option Value} {ad : Nat → Addr} {fd : Nat → FuncData}
theorem kb_turned_over_sorting_book (T : Txt K mg ad fd) : KBinds K (fd 48) ["book", "sorting"] ["sorting", "book"] (kwRev 2) (kwRev 2) := by
  obtain ⟨oc, od, kV, doc, pm, an, cdv, ct, osl, e, lk, hcd⟩ := T.F_turned_over.ex
  refine ⟨fun s us ws _ hl => ?_, fun r rz => kw_rel r rz⟩
  obtain ⟨rfl, hw⟩ := kw_inv (n := 2) (by decide) hl
  rw [e]
  match ws, hw with
  | [a, b], _ => exact .of_eq rfl
theorem kb_restricted_lot_sorting_book (T : Txt K mg ad fd) : KBinds K (fd 49) ["book", "sorting", "lot"] ["lot", "sorting", "book"] (kwRev 3) (kwRev 3) := by
  obtain ⟨oc, od, kV, doc, pm, an, cdv, ct, osl, e, lk, hcd⟩ := T.F_restricted.ex
  refine ⟨fun s us ws _ hl => ?_, fun r rz => kw_rel r rz⟩
  obtain ⟨rfl, hw⟩ := kw_inv (n := 3) (by decide) hl
  rw [e]
  match ws, hw with
  | [a, b, c], _ => exact .of_eq rfl
theorem kb_rebased_sorting_line_sorting_book (T : Txt K mg ad fd) : KBinds K (fd 51) ["book", "sorting", "line"] ["line", "sorting", "book"] (kwRev 3) (kwRev 3) := by
  obtain ⟨oc, od, kV, doc, pm, an, cdv, ct, osl, e, lk, hcd⟩ := T.F_rebased_sorting.ex
  refine ⟨fun s us ws _ hl => ?_, fun r rz => kw_rel r rz⟩
  obtain ⟨rfl, hw⟩ := kw_inv (n := 3) (by decide) hl
  rw [e]
  match ws, hw with
  | [a, b, c], _ => exact .of_eq rfl
theorem kb_carried_other_sorting_book (T : Txt K mg ad fd) : KBinds K (fd 52) ["book", "sorting", "other"] ["other", "sorting", "book"] (kwRev 3) (kwRev 3) := by
  obtain ⟨oc, od, kV, doc, pm, an, cdv, ct, osl, e, lk, hcd⟩ := T.F_carried.ex
  refine ⟨fun s us ws _ hl => ?_, fun r rz => kw_rel r rz⟩
  obtain ⟨rfl, hw⟩ := kw_inv (n := 3) (by decide) hl
  rw [e]
  match ws, hw with
  | [a, b, c], _ => exact .of_eq rfl
end
end LK
namespace LK
open PySem PySem.Spec PyProof.Rows L2
mutual
def deepD : PyData → Nat
  | .tuple ds => deepDs ds + 1
  | _ => 0
def deepDs : List PyData → Nat
  | [] => 0
  | d :: ds => max (deepD d) (deepDs ds)
end
theorem deepDs_mem : ∀ {ds : List PyData} {d : PyData}, d ∈ ds → deepD d ≤ deepDs ds
  | [], d, h => by simp at h
  | e :: ds, d, h => by
    unfold deepDs
    rcases List.mem_cons.mp h with rfl | h
    · omega
    · have := deepDs_mem h
      omega
theorem noLs_mem : ∀ {ds : List PyData} {d : PyData}, noLs ds = true → d ∈ ds → noL d = true
  | [], d, _, h => by simp at h
  | e :: ds, d, n, h => by
    unfold noLs at n
    rw [Bool.and_eq_true] at n
    rcases List.mem_cons.mp h with rfl | h
    · exact n.1
    · exact noLs_mem n.2 h
mutual
def noN : PyData → Bool
  | .none => false
  | .tuple ds => noNs ds
  | .list _ => false
  | .dict _ => false
  | _ => true
def noNs : List PyData → Bool
  | [] => true
  | d :: ds => noN d && noNs ds
end
theorem noNs_mem : ∀ {ds : List PyData} {d : PyData}, noNs ds = true → d ∈ ds → noN d = true
  | [], d, _, h => by simp at h
  | e :: ds, d, n, h => by
    unfold noNs at n
    rw [Bool.and_eq_true] at n
    rcases List.mem_cons.mp h with rfl | h
    · exact n.1
    · exact noNs_mem n.2 h
def spSame (K : PySem.W.Frag) (n : Nat) : Sp := fun vs H Q _ => ∃ v u d e, vs = [v, u] ∧ Rp K H v d ∧ Rp K H u e ∧ noN e = true ∧ deepD e ≤ n ∧ ∀ b H', Same H H' → (b = true ↔ d = e) → Q (.bl b) H'
section
variable {P : Program} {w : World} {K : PySem.W.Frag} {mg : Str → Option Value} {base : Heap} {ad : Nat → Addr} {fd : Nat → FuncData}
theorem ok__law_integer (T : Txt K mg ad fd) : FnOk P w K mg base CX0 1 (ad 80) (fd 80) ["_law_thing"] (spB1 K isInteger) := by
  refine T.F__law_integer.ok sc__law_integer (fun vs H Q E h => ?_) (fun cdv A outer s H vs Q E hr h => ?_)
  · obtain ⟨v, d, rfl, _⟩ := h
    rfl
  · obtain ⟨v, d, rfl, h, k⟩ := h
    refine ⟨_, (pss_one (ps_ret (pe_and (pe_callB (isiR K) (by rfl) T.g_isinstance (by decide +kernel) (pa_cons (pv 0) (pa_cons (pe_bltn (v := .ty "int") (by rfl) T.g_int (by decide +kernel) rfl) pa_nil))) (pe_one (pe_not (pe_callB (isiR K) (by rfl) T.g_isinstance (by decide +kernel) (pa_cons (pv 0) (pa_cons (pe_bltn (v := .ty "bool") (by rfl) T.g_bool (by decide +kernel) rfl) pa_nil)))))))), ?_⟩
    refine ⟨v, rfl, v, .ty "int", _, _, _, rfl, .ty _, h.ty, isi_int h, _, rfl, ?_⟩
    have kk : ∀ b, b = isInteger d → Q (.bl b) H := fun b e => by rw [e]; exact k
    cases e : isIntB d with
    | false => exact iteF (kk _ (by cases d <;> first | rfl | simp [isIntB] at e))
    | true =>
      refine iteT ⟨v, rfl, v, .ty "bool", _, _, _, rfl, .ty _, h.ty, isi_bool h, _, rfl, kk _ ?_⟩
      cases d <;> first | rfl | simp [isIntB] at e
theorem same_step (T : Txt K mg ad fd) (n : Nat) (sp : Sp) (F : FnOk P w K mg base CX0 (n + 1) (ad 81) (fd 81) ["_law_told", "_law_due"] sp) (hsp : ∀ m vs H Q E, n = m + 1 → spSame K m vs H Q E → sp vs H Q E) :
    FnOk P w K mg base CX0 (n + 2) (ad 81) (fd 81) ["_law_told", "_law_due"] (spSame K n) := by
  refine T.F__law_same.ok sc__law_same (fun vs H Q E h => ?_) (fun cdv A outer s H vs Q E hr h => ?_)
  · obtain ⟨v, u, d, e, rfl, _⟩ := h
    rfl
  · obtain ⟨v, u, d, e, rfl, hv, hu, ne, de, k⟩ := h
    refine ⟨_, (pss_cons (ps_if (pt_val (pe_callB (isiR K) (by rfl) T.g_isinstance (by decide +kernel) (pa_cons (pv 1) (pa_cons (pe_bltn (v := .ty "bool") (by rfl) T.g_bool (by decide +kernel) rfl) pa_nil)))) (pss_one (ps_ret (pe_and (pe_callB (isiR K) (by rfl) T.g_isinstance (by decide +kernel) (pa_cons (pv 0) (pa_cons (pe_bltn (v := .ty "bool") (by rfl) T.g_bool (by decide +kernel) rfl) pa_nil))) (pe_one (pe_cmpR op_eq (pv 0) (pv 1) (nomark _))))))
  pss_nil)
  (pss_cons (ps_if (pt_val (pe_callB (isiR K) (by rfl) T.g_isinstance (by decide +kernel) (pa_cons (pv 1) (pa_cons (pe_bltn (v := .ty "int") (by rfl) T.g_int (by decide +kernel) rfl) pa_nil)))) (pss_one (ps_ret (pe_and (pe_call (ok__law_integer T) (hr.mono (by omega)) rfl T.m__law_integer T.F__law_integer.kp (b__law_integer T) .nil pass0 (pa_cons (pv 0) pa_nil)) (pe_one (pe_cmpR op_eq (pv 0) (pv 1) (nomark _))))))
  pss_nil)
  (pss_cons (ps_if (pt_val (pe_callB (isiR K) (by rfl) T.g_isinstance (by decide +kernel) (pa_cons (pv 1) (pa_cons (pe_bltn (v := .ty "str") (by rfl) T.g_str (by decide +kernel) rfl) pa_nil)))) (pss_one (ps_ret (pe_and (pe_callB (isiR K) (by rfl) T.g_isinstance (by decide +kernel) (pa_cons (pv 0) (pa_cons (pe_bltn (v := .ty "str") (by rfl) T.g_str (by decide +kernel) rfl) pa_nil))) (pe_one (pe_cmpR op_eq (pv 0) (pv 1) (nomark _))))))
  pss_nil)
  (pss_cons (ps_if (PW.pt (pw_or (pt_not (pt_val (pe_callB (isiR K) (by rfl) T.g_isinstance (by decide +kernel) (pa_cons (pv 1) (pa_cons (pe_bltn (v := .ty "tuple") (by rfl) T.g_tuple (by decide +kernel) rfl) pa_nil))))) (pw_or (pt_not (pt_val (pe_callB (isiR K) (by rfl) T.g_isinstance (by decide +kernel) (pa_cons (pv 0) (pa_cons (pe_bltn (v := .ty "tuple") (by rfl) T.g_tuple (by decide +kernel) rfl) pa_nil))))) (pw_or1 (pt_cmpR op_ne (pe_callB (lenS K) (by rfl) T.g_len (by decide +kernel) (pa_cons (pv 0) pa_nil)) (pe_callB (lenS K) (by rfl) T.g_len (by decide +kernel) (pa_cons (pv 1) pa_nil)) (nomark _)))))) (pss_one (ps_ret pe_bl))
  pss_nil)
  (pss_cons (ps_for PassesOwn.never rfl (pi_range1 rfl T.g_range (pa_cons (pe_callB (lenS K) (by rfl) T.g_len (by decide +kernel) (pa_cons (pv 1) pa_nil)) pa_nil)) (pg_name (i := 2) (x := "_law_k") sc__law_same.nd rfl (Or.inl rfl))
  (pss_one (ps_if (pt_not (pt_val (pe_call F hr rfl T.m__law_same T.F__law_same.kp (b__law_same T) .nil pass0 (pa_cons (pe_ix (ixT K) (pv 0) (pv 2) (fun _ _ => rfl)) (pa_cons (pe_ix (ixT K) (pv 1) (pv 2) (fun _ _ => rfl)) pa_nil))))) (pss_one (ps_ret pe_bl))
  pss_nil)))
  (pss_one (ps_ret pe_bl))))))), ?_⟩
    refine ⟨_, rfl, u, .ty "bool", _, _, _, rfl, .ty _, hu.ty, isi_bool hu, _, rfl, ?_⟩
    cases hu with
    | bl c =>
      refine iteT ⟨_, rfl, v, .ty "bool", _, _, _, rfl, .ty _, hv.ty, isi_bool hv, _, rfl, ?_⟩
      cases hv with
      | bl c2 =>
        refine iteT ⟨_, rfl, _, rfl, rfl, k _ _ (Same.refl _) ?_⟩
        cases c <;> cases c2 <;> simp
      | _ => exact iteF (k _ _ (Same.refl _) ⟨(fun z => by cases z), fun z => by cases z⟩)
    | int j =>
      refine iteF ⟨_, rfl, .int j, .ty "int", _, _, _, rfl, .ty _, TyX.base (.int j), isi_int (K := K) (H := H) (.int j), _, rfl, ?_⟩
      refine iteT ⟨_, rfl, v, d, rfl, hv, _, rfl, ?_⟩
      cases hv with
      | int i =>
        refine iteT ⟨_, rfl, _, rfl, rfl, k _ _ (Same.refl _) ?_⟩
        simp
      | _ => exact iteF (k _ _ (Same.refl _) ⟨(fun z => by cases z), fun z => by cases z⟩)
    | str y =>
      refine iteF ⟨_, rfl, .str y, .ty "int", _, _, _, rfl, .ty _, TyX.base (.str y), isi_int (K := K) (H := H) (.str y), _, rfl, ?_⟩
      refine iteF ⟨_, rfl, .str y, .ty "str", _, _, _, rfl, .ty _, TyX.base (.str y), isi_str (K := K) (H := H) (.str y), _, rfl, ?_⟩
      refine iteT ⟨_, rfl, v, .ty "str", _, _, _, rfl, .ty _, hv.ty, isi_str hv, _, rfl, ?_⟩
      cases hv with
      | str x =>
        refine iteT ⟨_, rfl, _, rfl, rfl, k _ _ (Same.refl _) ?_⟩
        simp
      | _ => exact iteF (k _ _ (Same.refl _) ⟨(fun z => by cases z), fun z => by cases z⟩)
    | non => exact absurd ne (by simp [noN])
    | lst => exact absurd ne (by simp [noN])
    | @tup a ys es sy ly ry =>
      have hu2 : Rp K H (.ref a) (.tuple es) := .tup sy ly ry
      refine iteF ⟨_, rfl, .ref a, .ty "int", _, _, _, rfl, .ty _, hu2.ty, isi_int hu2, _, rfl, ?_⟩
      refine iteF ⟨_, rfl, .ref a, .ty "str", _, _, _, rfl, .ty _, hu2.ty, isi_str hu2, _, rfl, ?_⟩
      refine iteF ⟨_, rfl, .ref a, .ty "tuple", _, _, _, rfl, .ty _, hu2.ty, isi_tuple hu2, _, rfl, ?_⟩
      refine iteF ⟨_, rfl, v, .ty "tuple", _, _, _, rfl, .ty _, hv.ty, isi_tuple hv, _, rfl, ?_⟩
      have hne : ∀ d', isTupB d' = false → ¬ d' = PyData.tuple es := fun d' h e => by rw [e] at h; cases h
      cases hv with
      | @tup a' xs ds sx lx rx =>
        refine iteF ⟨_, rfl, a', _, rfl, .inr sx, _, rfl, a, _, rfl, .inr sy, rfl, _, rfl, ?_⟩
        have l1 := rx.length
        have l2 := ry.length
        show if (!decide (V.int (xs.length : Nat) = V.int (ys.length : Nat))) = true then _ else _
        by_cases c : xs.length = ys.length
        rotate_left
        · rw [decide_eq_false (show ¬ V.int (xs.length : Nat) = V.int (ys.length : Nat) from fun z => c (by injection z with z; omega))]
          refine iteT (k false _ (Same.refl _) ⟨(fun z => by cases z), fun z => ?_⟩)
          have : ds = es := by injection z
          rw [this] at l1
          omega
        rw [decide_eq_true (show V.int (xs.length : Nat) = V.int (ys.length : Nat) by rw [c])]
        obtain ⟨m, rfl⟩ : ∃ m, n = m + 1 := ⟨n - 1, by unfold deepD at de; omega⟩
        have de2 : deepDs es ≤ m := by
          unfold deepD at de
          omega
        have hs1 : (1000 : Nat) < 2 ^ 62 := by decide
        refine iteF ⟨_, rfl, a, _, rfl, .inr sy, _, rfl, ?_, ?_, for_range (fun i σ H1 => ∃ v2, σ = [some (.ref a'), some (.ref a), v2] ∧ Same H H1 ∧ ∀ j, j < i → ds[j]? = es[j]?)
          ⟨none, rfl, Same.refl _, fun j hj => absurd hj (Nat.not_lt_zero _)⟩ (fun i σ H1 hi ⟨v2, e1, s1, hp⟩ => ?_) (fun σ H1 ⟨v2, e1, s1, hp⟩ => ?_)⟩
        · omega
        · omega
        · subst e1
          have hi2 : i < ys.length := by simpa using hi
          obtain ⟨u2, hu2⟩ : ∃ u2, ys[i]? = some u2 := ⟨_, List.getElem?_eq_getElem hi2⟩
          obtain ⟨v3, hv3⟩ : ∃ v3, xs[i]? = some v3 := ⟨_, List.getElem?_eq_getElem (by omega)⟩
          obtain ⟨e2, he2, re2⟩ := ry.get hu2
          obtain ⟨d2, hd2, rd2⟩ := rx.get hv3
          refine ⟨_, rfl, _, rfl, a', _, _, _, rfl, rfl, seqT s1 sx, at_of (j := i) (by omega) hv3, _, rfl, _, rfl, a, _, _, _, rfl, rfl, seqT s1 sy, at_of (j := i) (by omega) hu2, ?_⟩
          refine hsp m _ _ _ _ rfl ⟨v3, u2, d2, e2, rfl, rd2.same s1, re2.same s1, noNs_mem (by simpa [noN] using ne) (List.mem_of_getElem? he2), Nat.le_trans (deepDs_mem (List.mem_of_getElem? he2)) de2, fun b H2 s2 hb => ⟨_, rfl, ?_⟩⟩
          cases b with
          | false =>
            refine iteT (k false _ (s1.trans s2) ⟨(fun z => by cases z), fun z => ?_⟩)
            have ez : ds = es := by injection z
            rw [ez, he2] at hd2
            exact hb.mpr (Option.some.inj hd2).symm
          | true =>
            refine iteF ⟨_, rfl, s1.trans s2, fun j hj => ?_⟩
            by_cases ej : j = i
            · subst ej
              rw [hd2, he2, hb.mp rfl]
            · exact hp j (by omega)
        · subst e1
          refine k true _ s1 ⟨fun _ => ?_, fun _ => rfl⟩
          congr 1
          refine List.ext_getElem? fun j => ?_
          by_cases hj : j < ys.length
          · exact hp j (by omega)
          · rw [List.getElem?_eq_none (by omega), List.getElem?_eq_none (by omega)]
      | _ => exact iteT (k false _ (Same.refl _) ⟨(fun z => by cases z), fun z => absurd z (hne _ rfl)⟩)
theorem ok__law_same_n (T : Txt K mg ad fd) : ∀ n, FnOk P w K mg base CX0 (n + 2) (ad 81) (fd 81) ["_law_told", "_law_due"] (spSame K n)
  | 0 => same_step T 0 (fun _ _ _ _ => False) ⟨fun _ _ _ _ h => h.elim, fun _ _ _ _ _ _ _ _ _ _ _ _ _ h => h.elim⟩ (fun m vs H Q E e _ => by cases e)
  | n + 1 => same_step T (n + 1) _ (ok__law_same_n T n) fun m vs H Q E e h => by
    have : n = m := by omega
    subst this
    exact h
theorem ok__law_same (T : Txt K mg ad fd) : FnOk P w K mg base CX0 5 (ad 81) (fd 81) ["_law_told", "_law_due"] (spSame K 3) := ok__law_same_n T 3
end
end LK
namespace LK
open PySem PySem.Spec PyProof.Rows L2
theorem pe_notK (K : PySem.W.Frag) {X : Cx} {a : Expr} {ta : TE} {pos : Pos} (ha : PE X a ta) (hK : X.K = K := by rfl) : PE X (.UnaryOp .Not a pos) (tNotT K ta) := hK ▸ pe_notT ha
end LK
namespace LK
open PySem PySem.Spec PyProof.Rows L2
theorem out_ok {K : PySem.W.Frag} {C : Addr} {Q : VK} {E : XK} {H : Hp} {g : Except (Str × Int) PyData} {d : PyData} (e : g = .ok d) (h : ∀ v H', Same H H' → Rp K H' v d → Q v H') : Out K C Q E H g := by
  rw [e]
  exact h
theorem noNs_all : ∀ {ds : List PyData}, (∀ d ∈ ds, noN d = true) → noNs ds = true
  | [], _ => rfl
  | d :: ds, h => by
    unfold noNs
    rw [h d (by simp), noNs_all fun e he => h e (by simp [he])]
    rfl
theorem noN_dTup (r : List Int) : noN (dTup r) = true := by
  show noNs (r.map PyData.int) = true
  exact noNs_all fun d hd => by
    obtain ⟨x, _, rfl⟩ := List.mem_map.mp hd
    rfl
theorem noN_rows (T : List (List Int)) : noN (dRows T) = true := by
  show noNs (T.map dTup) = true
  exact noNs_all fun d hd => by
    obtain ⟨x, _, rfl⟩ := List.mem_map.mp hd
    exact noN_dTup x
theorem noN_book (n : Int) (rows : List (List Int)) : noN (bookD n rows) = true := by
  show noNs [.int n, .tuple (rows.map dTup)] = true
  have := noN_rows rows
  unfold noNs
  unfold noNs
  unfold noNs
  show (noN (dRows rows) && true) = true
  rw [this]
  rfl
theorem deepDs_le {k : Nat} : ∀ {ds : List PyData}, (∀ d ∈ ds, deepD d ≤ k) → deepDs ds ≤ k
  | [], _ => Nat.zero_le _
  | d :: ds, h => by
    unfold deepDs
    have h1 := h d (by simp)
    have h2 := deepDs_le (ds := ds) fun e he => h e (by simp [he])
    omega
theorem deep_dTup (r : List Int) : deepD (dTup r) ≤ 1 := by
  have : deepDs (r.map PyData.int) ≤ 0 := deepDs_le fun d hd => by
    obtain ⟨x, _, rfl⟩ := List.mem_map.mp hd
    exact Nat.le_refl _
  show deepDs (r.map PyData.int) + 1 ≤ 1
  omega
theorem deep_dRows (T : List (List Int)) : deepD (dRows T) ≤ 2 := by
  have : deepDs (T.map dTup) ≤ 1 := deepDs_le fun d hd => by
    obtain ⟨x, _, rfl⟩ := List.mem_map.mp hd
    exact deep_dTup x
  show deepDs (T.map dTup) + 1 ≤ 2
  omega
theorem deep_bookD (n : Int) (rows : List (List Int)) : deepD (bookD n rows) ≤ 3 := by
  have h := deep_dRows rows
  show max 0 (max (deepD (dRows rows)) 0) + 1 ≤ 3
  omega
theorem falls_eq {n : Int} {rows : List (List Int)} {line : List Int} (hin : RowsIn n rows) (hL : Ln n line) : fallsX n rows (dRows (fitT n rows line)) = .ok (dRows ((openL n rows (fitT n rows line)).filter fun t => decide (t ∈ fitT n rows line))) := by
  unfold fallsX
  rw [fit_sorting hin hL, toT_rows]
  rfl
theorem rises_eq {n : Int} {rows : List (List Int)} {line : List Int} (hin : RowsIn n rows) (hL : Ln n line) : risesX n rows (dRows (fitT n rows line)) = .ok (dRows ((openL n rows (fitT n rows line)).filter fun t => !decide (t ∈ fitT n rows line))) := by
  unfold risesX
  rw [fit_sorting hin hL, toT_rows]
  rfl
def spOver (K : PySem.W.Frag) : Sp := fun vs H Q _ => ∃ (v u t1 t2 : V) (x n : Int) (rows : List (List Int)) (line later : List Int), vs = [v, u, t1, t2, .int x] ∧ Rp K H v (bookD n rows) ∧ Rp K H u (dRowsL (tiesL n rows)) ∧ Rp K H t1 (dRows (fitT n rows line)) ∧ Rp K H t2 (dRows (fitT n rows later)) ∧
  WebOk n rows ∧ Ln n line ∧ Ln n later ∧ 0 ≤ x ∧ x < n ∧ ∀ H', Same H H' → Q (.bl true) H'
section
variable {P : Program} {w : World} {K : PySem.W.Frag} {mg : Str → Option Value} {base : Heap} {ad : Nat → Addr} {fd : Nat → FuncData}
theorem ok__law_over_told (T : Txt K mg ad fd) : FnOk P w K mg base CX0 11 (ad 84) (fd 84) ["_law_web", "_law_ties_here", "_law_turned", "_law_other_here", "_law_here"] (spOver K) := by
  refine T.F__law_over_told.ok sc__law_over_told (fun vs H Q E h => ?_) (fun cdv A outer s H vs Q E hr h => ?_)
  · obtain ⟨v, u, t1, t2, x, n, rows, line, later, rfl, _⟩ := h
    rfl
  · obtain ⟨v, u, t1, t2, x, n, rows, line, later, rfl, hv, hu, h1, h2, wo, hL, hL2, x0, x1, k⟩ := h
    refine ⟨_, (pss_cons (ps_set (i := 5) sc__law_over_told.nd rfl (Or.inr rfl) (pe_callTy (tupOf K) (by rfl) T.g_tuple (by decide +kernel) (pa_cons (pe_lc (own := [("_law_tie", 10)]) (g := gName 10) rfl sc__law_over_told.nd (piL K (pv 1)) (blkOk_by (N := ["_law_web", "_law_ties_here", "_law_turned", "_law_other_here", "_law_here", "_law_over", "_law_higher_here", "_law_falls", "_law_rises", "_law_beneath", "_law_tie"]) (sc := defScope s__law_over_told) (by decide +kernel)) (fun _ _ _ _ _ => (pg_name (i := 10) (x := "_law_tie") sc__law_over_told.nd rfl (Or.inl rfl))) (fun _ _ _ _ _ => (pts_one (pt_cmpR (notInR K (hu65 hr)) (pv 10) (pv 2) (by with_unfolding_all rfl)))) (fun _ _ _ _ _ => (pv 10))) pa_nil)))
  (pss_cons (ps_set (i := 6) sc__law_over_told.nd rfl (Or.inl rfl) (pe_callTy (tupOf K) (by rfl) T.g_tuple (by decide +kernel) (pa_cons (pe_lc (own := [("_law_tie", 10)]) (g := gName 10) rfl sc__law_over_told.nd (piL K (pv 1)) (blkOk_by (N := ["_law_web", "_law_ties_here", "_law_turned", "_law_other_here", "_law_here", "_law_over", "_law_higher_here", "_law_falls", "_law_rises", "_law_beneath", "_law_tie"]) (sc := defScope s__law_over_told) (by decide +kernel)) (fun _ _ _ _ _ => (pg_name (i := 10) (x := "_law_tie") sc__law_over_told.nd rfl (Or.inl rfl))) (fun _ _ _ _ _ => (pts_one (pt_cmpR (notInR K (hu65 hr)) (pv 10) (pv 3) (by with_unfolding_all rfl)))) (fun _ _ _ _ _ => (pv 10))) pa_nil)))
  (pss_cons (ps_if (PW.pt (pw_or (pt_not (pt_val (pe_call (ok__law_same T) (hr.mono (by decide)) rfl T.m__law_same T.F__law_same.kp (b__law_same T) .nil pass0 (pa_cons (pe_call (ok_turned_over T) (hr.mono (by decide)) rfl T.m_turned_over T.F_turned_over.kp (b_turned_over T) .nil passL (pa_cons (pv 0) (pa_cons (pv 2) pa_nil))) (pa_cons (pv 5) pa_nil))))) (pw_or1 (pt_not (pt_val (pe_call (ok__law_same T) (hr.mono (by decide)) rfl T.m__law_same T.F__law_same.kp (b__law_same T) .nil pass0 (pa_cons (pe_callKO (ok_turned_over T) (hr.mono (by decide)) rfl T.m_turned_over T.F_turned_over.kp (kb_turned_over_sorting_book T) passL (pk_cons (pv 5) (pk_cons (pv 0) pk_nil))) (pa_cons (pv 2) pa_nil)))))))) (pss_one (ps_ret pe_bl))
  pss_nil)
  (pss_cons (ps_set (i := 7) sc__law_over_told.nd rfl (Or.inl rfl) (pe_call (ok_falls_of T) (hr.mono (by decide)) rfl T.m_falls_of T.F_falls_of.kp (b_falls_of T) .nil passL (pa_cons (pv 0) (pa_cons (pv 2) pa_nil))))
  (pss_cons (ps_set (i := 8) sc__law_over_told.nd rfl (Or.inl rfl) (pe_call (ok_rises_of T) (hr.mono (by decide)) rfl T.m_rises_of T.F_rises_of.kp (b_rises_of T) .nil passL (pa_cons (pv 0) (pa_cons (pv 2) pa_nil))))
  (pss_cons (ps_if (PW.pt (pw_or (pt_not (pt_val (pe_call (ok__law_same T) (hr.mono (by decide)) rfl T.m__law_same T.F__law_same.kp (b__law_same T) .nil pass0 (pa_cons (pe_call (ok_falls_of T) (hr.mono (by decide)) rfl T.m_falls_of T.F_falls_of.kp (b_falls_of T) .nil passL (pa_cons (pv 0) (pa_cons (pv 5) pa_nil))) (pa_cons (pv 8) pa_nil))))) (pw_or1 (pt_not (pt_val (pe_call (ok__law_same T) (hr.mono (by decide)) rfl T.m__law_same T.F__law_same.kp (b__law_same T) .nil pass0 (pa_cons (pe_call (ok_rises_of T) (hr.mono (by decide)) rfl T.m_rises_of T.F_rises_of.kp (b_rises_of T) .nil passL (pa_cons (pv 0) (pa_cons (pv 5) pa_nil))) (pa_cons (pv 7) pa_nil)))))))) (pss_one (ps_ret pe_bl))
  pss_nil)
  (pss_cons (ps_if (PW.pt (pw_or (ptTru K (pe_lc (own := [("_law_tie", 10)]) (g := gName 10) rfl sc__law_over_told.nd (piT K (pv 7)) (blkOk_by (N := ["_law_web", "_law_ties_here", "_law_turned", "_law_other_here", "_law_here", "_law_over", "_law_higher_here", "_law_falls", "_law_rises", "_law_beneath", "_law_tie"]) (sc := defScope s__law_over_told) (by decide +kernel)) (fun _ _ _ _ _ => (pg_name (i := 10) (x := "_law_tie") sc__law_over_told.nd rfl (Or.inl rfl))) (fun _ _ _ _ _ => (pts_one (pt_cmpR (notInR K (hu65 hr)) (pv 10) (pv 2) (by with_unfolding_all rfl)))) (fun _ _ _ _ _ => (pv 10))) (by intro _; rfl)) (pw_or1 (ptTru K (pe_lc (own := [("_law_tie", 10)]) (g := gName 10) rfl sc__law_over_told.nd (piT K (pv 8)) (blkOk_by (N := ["_law_web", "_law_ties_here", "_law_turned", "_law_other_here", "_law_here", "_law_over", "_law_higher_here", "_law_falls", "_law_rises", "_law_beneath", "_law_tie"]) (sc := defScope s__law_over_told) (by decide +kernel)) (fun _ _ _ _ _ => (pg_name (i := 10) (x := "_law_tie") sc__law_over_told.nd rfl (Or.inl rfl))) (fun _ _ _ _ _ => (pts_one (pt_cmpR (notInR K (hu65 hr)) (pv 10) (pv 5) (by with_unfolding_all rfl)))) (fun _ _ _ _ _ => (pv 10))) (by intro _; rfl))))) (pss_one (ps_ret pe_bl))
  pss_nil)
  (pss_cons (ps_set (i := 9) sc__law_over_told.nd rfl (Or.inl rfl) (pe_notK K (pe_lc (own := [("_law_tie", 10)]) (g := gName 10) rfl sc__law_over_told.nd (piT K (pv 2)) (blkOk_by (N := ["_law_web", "_law_ties_here", "_law_turned", "_law_other_here", "_law_here", "_law_over", "_law_higher_here", "_law_falls", "_law_rises", "_law_beneath", "_law_tie"]) (sc := defScope s__law_over_told) (by decide +kernel)) (fun _ _ _ _ _ => (pg_name (i := 10) (x := "_law_tie") sc__law_over_told.nd rfl (Or.inl rfl))) (fun _ _ _ _ _ => (pts_one (pt_cmpR (notInR K (hu65 hr)) (pv 10) (pv 3) (by with_unfolding_all rfl)))) (fun _ _ _ _ _ => (pv 10)))))
  (pss_cons (ps_if (pt_not (pt_val (pe_call (ok__law_same T) (hr.mono (by decide)) rfl T.m__law_same T.F__law_same.kp (b__law_same T) .nil pass0 (pa_cons (pe_call (ok_is_beneath T) (hr.mono (by decide)) rfl T.m_is_beneath T.F_is_beneath.kp (b_is_beneath T) .nil passL (pa_cons (pv 0) (pa_cons (pv 2) (pa_cons (pv 3) pa_nil)))) (pa_cons (pv 9) pa_nil))))) (pss_one (ps_ret pe_bl))
  pss_nil)
  (pss_cons (ps_if (pt_not (pt_val (pe_call (ok__law_same T) (hr.mono (by decide)) rfl T.m__law_same T.F__law_same.kp (b__law_same T) .nil pass0 (pa_cons (pe_call (ok_is_beneath T) (hr.mono (by decide)) rfl T.m_is_beneath T.F_is_beneath.kp (b_is_beneath T) .nil passL (pa_cons (pv 0) (pa_cons (pv 6) (pa_cons (pv 5) pa_nil)))) (pa_cons (pv 9) pa_nil))))) (pss_one (ps_ret pe_bl))
  pss_nil)
  (pss_one (ps_ret (pe_call (ok__law_same T) (hr.mono (by decide)) rfl T.m__law_same T.F__law_same.kp (b__law_same T) .nil pass0 (pa_cons (pe_call (ok_turned_over T) (hr.mono (by decide)) rfl T.m_turned_over T.F_turned_over.kp (b_turned_over T) .nil passL (pa_cons (pv 0) (pa_cons (pe_call (ok_put_first T) (hr.mono (by decide)) rfl T.m_put_first T.F_put_first.kp (b_put_first T) .nil passL (pa_cons (pv 0) (pa_cons (pv 2) (pa_cons (pv 4) pa_nil)))) pa_nil))) (pa_cons (pe_call (ok_put_last T) (hr.mono (by decide)) rfl T.m_put_last T.F_put_last.kp (b_put_last T) .nil passL (pa_cons (pv 0) (pa_cons (pv 5) (pa_cons (pv 4) pa_nil)))) pa_nil))))))))))))))), ?_⟩
    have hin : RowsIn n rows := rowsOk_in wo.2.2.2
    have h45 : In45 n rows := ⟨hin, hL.2, by have := wo.2.1; omega⟩
    obtain ⟨L, xs, rfl, hL0, hz, hr2⟩ := hu.lstA
    have lx : xs.length = (tiesL n rows).length := by rw [hr2.length, List.length_map]
    have cf : ∀ {T : List (List Int)} {Hx : Hp} {tv : V}, Same H Hx → Rp K Hx tv (dRows T) → True := fun _ _ => trivial
    -- over
    refine ⟨_, rfl, L, rfl, ⟨_, hL0⟩, fun D hD => ?_⟩
    refine lcL (K := K) (xs := xs) (fun j => !decide ((tiesL n rows).getD j [] ∈ fitT n rows line)) (fun j => dTup ((tiesL n rows).getD j [])) hD hL0 hz (fun _ _ _ => noL_dTup _) (fun j x H2 hj s2 Q1 Q2 k1 k2 => ?_) (fun ys H2 s2 hy r2 => ?_)
    · obtain ⟨t, a2, hn, rfl, ta⟩ := hr2.row hj
      have ta := ta.same s2
      have en : (tiesL n rows).getD j [] = t := by rw [List.getD_eq_getElem?_getD, hn]; rfl
      rw [en] at k1 k2
      refine ⟨rfl, _, rfl, _, rfl, t, fitT n rows line, ta.rp, h1.same s2, _, rfl, ?_⟩
      show if (!decide (t ∈ fitT n rows line)) = true then _ else _
      cases c : (!decide (t ∈ fitT n rows line)) with
      | true => exact iteT ⟨_, rfl, k1 c _ _ (Same.refl _) ta.rp⟩
      | false => exact iteF (k2 c _ (Same.refl _))
    have ez : (((List.range xs.length).filter fun j => !decide ((tiesL n rows).getD j [] ∈ fitT n rows line)).map fun j => dTup ((tiesL n rows).getD j [])) = (compl n rows (fitT n rows line)).map dTup := by
      rw [lx]
      exact filter_map_range (fun t : List Int => !decide (t ∈ fitT n rows line)) (fun t => dTup t) [] (tiesL n rows)
    rw [ez] at r2
    have ly : ys.length ≤ 1000 := by
      rw [r2.length, List.length_map]
      exact Nat.le_trans (List.length_filter_le _ _) (by omega)
    dsimp only [tNil]
    refine tupL_use (SqL.of hy) fun p3 H3 s3 t3 => ?_
    have s13 := s2.trans s3
    have ov : Rp K H3 (.ref p3) (dRows (compl n rows (fitT n rows line))) := .tup t3 ly (r2.same s3)
    -- higher
    refine ⟨_, rfl, L, rfl, ⟨_, s13.seq hL0⟩, fun D2 hD2 => ?_⟩
    refine lcL (K := K) (xs := xs) (fun j => !decide ((tiesL n rows).getD j [] ∈ fitT n rows later)) (fun j => dTup ((tiesL n rows).getD j [])) hD2 (s13.seq hL0) hz (fun _ _ _ => noL_dTup _) (fun j x H4 hj s4 Q1 Q2 k1 k2 => ?_) (fun ys H4 s4 hy r4 => ?_)
    · obtain ⟨t, a2, hn, rfl, ta⟩ := hr2.row hj
      have ta := ta.same (s13.trans s4)
      have en : (tiesL n rows).getD j [] = t := by rw [List.getD_eq_getElem?_getD, hn]; rfl
      rw [en] at k1 k2
      refine ⟨rfl, _, rfl, _, rfl, t, fitT n rows later, ta.rp, h2.same (s13.trans s4), _, rfl, ?_⟩
      show if (!decide (t ∈ fitT n rows later)) = true then _ else _
      cases c : (!decide (t ∈ fitT n rows later)) with
      | true => exact iteT ⟨_, rfl, k1 c _ _ (Same.refl _) ta.rp⟩
      | false => exact iteF (k2 c _ (Same.refl _))
    have ez2 : (((List.range xs.length).filter fun j => !decide ((tiesL n rows).getD j [] ∈ fitT n rows later)).map fun j => dTup ((tiesL n rows).getD j [])) = (compl n rows (fitT n rows later)).map dTup := by
      rw [lx]
      exact filter_map_range (fun t : List Int => !decide (t ∈ fitT n rows later)) (fun t => dTup t) [] (tiesL n rows)
    rw [ez2] at r4
    have ly4 : ys.length ≤ 1000 := by
      rw [r4.length, List.length_map]
      exact Nat.le_trans (List.length_filter_le _ _) (by omega)
    dsimp only [tNil]
    refine tupL_use (SqL.of hy) fun p5 H5 s5 t5 => ?_
    have hg : Rp K H5 (.ref p5) (dRows (compl n rows (fitT n rows later))) := .tup t5 ly4 (r4.same s5)
    have s15 := s13.trans (s4.trans s5)
    have ov5 := ov.same (s4.trans s5)
    have hv5 := hv.same s15
    have h15 := h1.same s15
    have h25 := h2.same s15
    clear ez ez2 r2 r4 hy
    -- turned over
    refine ⟨_, rfl, _, rfl, v, t1, _, n, rows, rfl, hv5, h15, h45, out_ok (over_eq hin hL) fun z H6 s6 rz => ⟨_, rfl, z, _, _, _, rfl, rz, ov5.same s6, noN_rows _, by have := deep_dRows (compl n rows (fitT n rows line)); omega, fun b H7 s7 e7 => ⟨_, rfl, ?_⟩⟩⟩
    have eb : b = true := e7.mpr rfl
    subst eb
    have s57 := s6.trans s7
    refine iteF ⟨_, rfl, _, rfl, v, .ref p3, _, n, rows, rfl, hv5.same s57, ov5.same s57, h45, out_ok (over_over hin hL) fun z H8 s8 rz => ⟨_, rfl, z, _, _, _, rfl, rz, h15.same (s57.trans s8), noN_rows _, by have := deep_dRows (fitT n rows line); omega, fun b H9 s9 e9 => ⟨_, rfl, ?_⟩⟩⟩
    have eb : b = true := e9.mpr rfl
    subst eb
    have s59 := s57.trans (s8.trans s9)
    refine iteF ?_
    -- falls, rises
    refine ⟨_, rfl, _, rfl, v, t1, _, n, rows, rfl, hv5.same s59, h15.same s59, h45, out_ok (falls_eq hin hL) fun fa H10 s10 rf => ?_⟩
    refine ⟨_, rfl, _, rfl, v, t1, _, n, rows, rfl, hv5.same (s59.trans s10), h15.same (s59.trans s10), h45, out_ok (rises_eq hin hL) fun ri H11 s11 rr => ?_⟩
    have s5b := s59.trans (s10.trans s11)
    have rf := rf.same s11
    refine ⟨_, rfl, _, rfl, v, .ref p3, _, n, rows, rfl, hv5.same s5b, ov5.same s5b, h45, out_ok ((falls_over hin hL).trans (rises_eq hin hL)) fun z H12 s12 rz => ⟨_, rfl, z, _, _, _, rfl, rz, rr.same s12, noN_rows _, Nat.le_trans (deep_dRows _) (by decide), fun b H13 s13' e13 => ⟨_, rfl, ?_⟩⟩⟩
    have eb : b = true := e13.mpr rfl
    subst eb
    have s5d := s12.trans s13'
    refine iteF ⟨_, rfl, _, rfl, v, .ref p3, _, n, rows, rfl, hv5.same (s5b.trans s5d), ov5.same (s5b.trans s5d), h45, out_ok ((rises_over hin hL).trans (falls_eq hin hL)) fun z H14 s14 rz => ⟨_, rfl, z, _, _, _, rfl, rz, rf.same (s5d.trans s14), noN_rows _, Nat.le_trans (deep_dRows _) (by decide), fun b H15 s15' e15 => ⟨_, rfl, ?_⟩⟩⟩
    have eb : b = true := e15.mpr rfl
    subst eb
    have s5f := s5b.trans (s5d.trans (s14.trans s15'))
    have rf := rf.same (s5d.trans (s14.trans s15'))
    have rr := rr.same (s5d.trans (s14.trans s15'))
    refine iteF ?_
    have hvf := hv5.same s5f
    have h1f := h15.same s5f
    have h2f := h25.same s5f
    have ovf := ov5.same s5f
    have hgf := hg.same s5f
    have sHf := s15.trans s5f
    clear s57 s59 s5b s5d hv5 h15 h25 ov5 hg ov
    -- falls are turned
    have nofal : ((openL n rows (fitT n rows line)).filter fun t => decide (t ∈ fitT n rows line)).filter (fun t => !decide (t ∈ fitT n rows line)) = [] := List.filter_eq_nil_iff.mpr fun t ht => by
      have := (List.mem_filter.mp ht).2
      rw [this]
      decide
    have noris : ((openL n rows (fitT n rows line)).filter fun t => !decide (t ∈ fitT n rows line)).filter (fun t => !decide (t ∈ compl n rows (fitT n rows line))) = [] := List.filter_eq_nil_iff.mpr fun t ht => by
      obtain ⟨h3, h4⟩ := List.mem_filter.mp ht
      have h5 : t ∈ tiesL n rows := (List.mem_filter.mp h3).1
      rw [Bool.not_eq_true', decide_eq_false_iff_not] at h4
      rw [decide_eq_true (compl_mem.mpr ⟨h5, h4⟩)]
      decide
    generalize ((openL n rows (fitT n rows line)).filter fun t => decide (t ∈ fitT n rows line)) = F1 at *
    generalize ((openL n rows (fitT n rows line)).filter fun t => !decide (t ∈ fitT n rows line)) = F2 at *
    obtain ⟨aF, xF, rfl, hF, zF, raF⟩ := rf.tupA
    obtain ⟨aR, xR, rfl, hR, zR, raR⟩ := rr.tupA
    have lF : xF.length = F1.length := by rw [raF.length, List.length_map]
    have lR : xR.length = F2.length := by rw [raR.length, List.length_map]
    refine ⟨_, rfl, aF, rfl, ⟨_, hF⟩, fun D3 hD3 => ?_⟩
    refine lcT (K := K) (xs := xF) (fun j => !decide (F1.getD j [] ∈ fitT n rows line)) (fun j => dTup (F1.getD j [])) hD3 hF zF (fun _ _ _ => noL_dTup _) (fun j x H16 hj s16 Q1 Q2 k1 k2 => ?_) (fun ys H16 s16 hy r16 => ?_)
    · obtain ⟨t, a2, hn, rfl, ta⟩ := raF.row hj
      have ta := ta.same s16
      have en : F1.getD j [] = t := by rw [List.getD_eq_getElem?_getD, hn]; rfl
      rw [en] at k1 k2
      refine ⟨rfl, _, rfl, _, rfl, t, fitT n rows line, ta.rp, h1f.same s16, _, rfl, ?_⟩
      show if (!decide (t ∈ fitT n rows line)) = true then _ else _
      cases c : (!decide (t ∈ fitT n rows line)) with
      | true => exact iteT ⟨_, rfl, k1 c _ _ (Same.refl _) ta.rp⟩
      | false => exact iteF (k2 c _ (Same.refl _))
    have ez : (((List.range xF.length).filter fun j => !decide (F1.getD j [] ∈ fitT n rows line)).map fun j => dTup (F1.getD j [])) = (F1.filter fun t => !decide (t ∈ fitT n rows line)).map dTup := by
      rw [lF]
      exact filter_map_range (fun t : List Int => !decide (t ∈ fitT n rows line)) (fun t => dTup t) [] F1
    rw [ez, nofal] at r16
    cases r16
    refine ⟨_, .inl ⟨_, SqL.of hy, rfl⟩, iteF ⟨_, rfl, aR, rfl, ⟨_, seqT s16 hR⟩, fun D4 hD4 => ?_⟩⟩
    refine lcT (K := K) (xs := xR) (fun j => !decide (F2.getD j [] ∈ compl n rows (fitT n rows line))) (fun j => dTup (F2.getD j [])) hD4 (seqT s16 hR) zR (fun _ _ _ => noL_dTup _) (fun j x H17 hj s17 Q1 Q2 k1 k2 => ?_) (fun ys H17 s17 hy r17 => ?_)
    · obtain ⟨t, a2, hn, rfl, ta⟩ := raR.row hj
      have ta := ta.same (s16.trans s17)
      have en : F2.getD j [] = t := by rw [List.getD_eq_getElem?_getD, hn]; rfl
      rw [en] at k1 k2
      refine ⟨rfl, _, rfl, _, rfl, t, compl n rows (fitT n rows line), ta.rp, ovf.same (s16.trans s17), _, rfl, ?_⟩
      show if (!decide (t ∈ compl n rows (fitT n rows line))) = true then _ else _
      cases c : (!decide (t ∈ compl n rows (fitT n rows line))) with
      | true => exact iteT ⟨_, rfl, k1 c _ _ (Same.refl _) ta.rp⟩
      | false => exact iteF (k2 c _ (Same.refl _))
    have ez : (((List.range xR.length).filter fun j => !decide (F2.getD j [] ∈ compl n rows (fitT n rows line))).map fun j => dTup (F2.getD j [])) = (F2.filter fun t => !decide (t ∈ compl n rows (fitT n rows line))).map dTup := by
      rw [lR]
      exact filter_map_range (fun t : List Int => !decide (t ∈ compl n rows (fitT n rows line))) (fun t => dTup t) [] F2
    rw [ez, noris] at r17
    cases r17
    have s5h := s16.trans s17
    refine ⟨_, .inl ⟨_, SqL.of hy, rfl⟩, iteF ?_⟩
    -- beneath
    obtain ⟨aT, xT, rfl, hT, zT, raT⟩ := (h1f.same s5h).tupA
    have lT : xT.length = (fitT n rows line).length := by rw [raT.length, List.length_map]
    refine ⟨_, rfl, aT, rfl, ⟨_, hT⟩, fun D5 hD5 => ?_⟩
    refine lcT (K := K) (xs := xT) (fun j => !decide ((fitT n rows line).getD j [] ∈ fitT n rows later)) (fun j => dTup ((fitT n rows line).getD j [])) hD5 hT zT (fun _ _ _ => noL_dTup _) (fun j x H18 hj s18 Q1 Q2 k1 k2 => ?_) (fun ys H18 s18 hy r18 => ?_)
    · obtain ⟨t, a2, hn, rfl, ta⟩ := raT.row hj
      have ta := ta.same s18
      have en : (fitT n rows line).getD j [] = t := by rw [List.getD_eq_getElem?_getD, hn]; rfl
      rw [en] at k1 k2
      refine ⟨rfl, _, rfl, _, rfl, t, fitT n rows later, ta.rp, h2f.same (s5h.trans s18), _, rfl, ?_⟩
      show if (!decide (t ∈ fitT n rows later)) = true then _ else _
      cases c : (!decide (t ∈ fitT n rows later)) with
      | true => exact iteT ⟨_, rfl, k1 c _ _ (Same.refl _) ta.rp⟩
      | false => exact iteF (k2 c _ (Same.refl _))
    have ez : (((List.range xT.length).filter fun j => !decide ((fitT n rows line).getD j [] ∈ fitT n rows later)).map fun j => dTup ((fitT n rows line).getD j [])) = ((fitT n rows line).filter fun t => !decide (t ∈ fitT n rows later)).map dTup := by
      rw [lT]
      exact filter_map_range (fun t : List Int => !decide (t ∈ fitT n rows later)) (fun t => dTup t) [] (fitT n rows line)
    rw [ez] at r18
    have eb : (!(!ys.isEmpty)) = areTurned (fitT n rows line) (fitT n rows later) := by
      have hl := r18.length
      rw [List.length_map] at hl
      rw [Bool.not_not, Bool.eq_iff_iff, List.isEmpty_iff, areTurned_iff]
      constructor
      · intro e t ht
        rw [e, List.length_nil] at hl
        have := List.length_eq_zero_iff.mp hl.symm
        have := List.filter_eq_nil_iff.mp this t ht
        simpa using this
      · intro h
        have : ((fitT n rows line).filter fun t => !decide (t ∈ fitT n rows later)) = [] := List.filter_eq_nil_iff.mpr fun t ht => by simp [h t ht]
        rw [this, List.length_nil] at hl
        exact List.length_eq_zero_iff.mp hl
    have s5i := s5h.trans s18
    refine ⟨_, .inl ⟨_, SqL.of hy, rfl⟩, ?_⟩
    rw [eb]
    refine ⟨_, rfl, _, rfl, _, rfl, v, .ref aT, t2, _, _, n, rows, rfl, hvf.same s5i, h1f.same s5i, h2f.same s5i, h45, out_ok (beneath_eq hin hL hL2) fun z H19 s19 rz => ⟨_, rfl, z, _, _, _, rfl, rz, .bl _, rfl, Nat.zero_le _, fun b H20 s20 e20 => ⟨_, rfl, ?_⟩⟩⟩
    have eb : b = true := e20.mpr rfl
    subst eb
    have s5k := s5i.trans (s19.trans s20)
    refine iteF ⟨_, rfl, _, rfl, _, rfl, v, .ref p5, .ref p3, _, _, n, rows, rfl, hvf.same s5k, hgf.same s5k, ovf.same s5k, h45, out_ok (beneath_over hin hL hL2) fun z H21 s21 rz => ⟨_, rfl, z, _, _, _, rfl, rz, .bl _, rfl, Nat.zero_le _, fun b H22 s22 e22 => ⟨_, rfl, ?_⟩⟩⟩
    have eb : b = true := e22.mpr rfl
    subst eb
    have s5m := s5k.trans (s21.trans s22)
    have pl : putX 0 n rows (dRows (compl n rows (fitT n rows line))) (.int x) = .ok (dRows (putT n rows (compl n rows (fitT n rows line)) x 0)) := by
      have := put_eq (x := x) hin hL.rev 0 x0 x1
      rw [← compl_fit hL] at this
      exact this
    refine iteF ⟨_, rfl, _, rfl, _, rfl, _, rfl, v, .ref aT, .int x, _, _, n, rows, rfl, hvf.same s5m, h1f.same s5m, .int x, h45, out_ok (put_eq hin hL 1 x0 x1) fun z H23 s23 rz => ?_⟩
    refine ⟨v, z, _, n, rows, rfl, hvf.same (s5m.trans s23), rz, h45, out_ok (put_told hin hL x0 x1) fun z2 H24 s24 rz2 => ?_⟩
    refine ⟨_, rfl, _, rfl, _, rfl, v, .ref p3, .int x, _, _, n, rows, rfl, hvf.same (s5m.trans (s23.trans s24)), ovf.same (s5m.trans (s23.trans s24)), .int x, h45, out_ok pl fun z3 H25 s25 rz3 => ?_⟩
    refine ⟨z2, z3, _, _, rfl, rz2.same s25, rz3, noN_rows _, Nat.le_trans (deep_dRows _) (by decide), fun b H26 s26 e26 => ?_⟩
    have eb : b = true := e26.mpr rfl
    subst eb
    exact k _ (sHf.trans (s5m.trans (s23.trans (s24.trans (s25.trans s26)))))
end
end LK
namespace LK
open PySem PySem.Spec PyProof.Rows L2
def spKeptT (K : PySem.W.Frag) : Sp := fun vs H Q _ => ∃ (v : V) (a b c d : Addr) (n : Int) (rows : List (List Int)) (line later lot within : List Int), vs = [v, .ref a, .ref b, .ref c, .ref d] ∧ Rp K H v (bookD n rows) ∧ TI K H a line ∧ TI K H b later ∧ TI K H c lot ∧ TI K H d within ∧
  WebOk n rows ∧ Ln n line ∧ Ln n later ∧ LotOk n lot ∧ LotOk (lot.length : Nat) within ∧ ∀ H', Same H H' → Q (.bl true) H'
theorem fit_in {n : Int} {rows : List (List Int)} {l : List Int} (hL : Ln n l) : PairsIn (tiesL n rows) l := ties_pairs fun x h0 h1 => hL.mem.mpr ⟨h0, h1⟩
section
variable {P : Program} {w : World} {K : PySem.W.Frag} {mg : Str → Option Value} {base : Heap} {ad : Nat → Addr} {fd : Nat → FuncData}
theorem ok__law_kept_told (T : Txt K mg ad fd) : FnOk P w K mg base CX0 10 (ad 85) (fd 85) ["_law_web", "_law_line_here", "_law_later", "_law_lot_here", "_law_within"] (spKeptT K) := by
  refine T.F__law_kept_told.ok sc__law_kept_told (fun vs H Q E h => ?_) (fun cdv A outer s H vs Q E hr h => ?_)
  · obtain ⟨v, a, b, c, d, n, rows, line, later, lot, within, rfl, _⟩ := h
    rfl
  · obtain ⟨v, a, b, c, d, n, rows, line, later, lot, within, rfl, hv, ta, tb, tc, td, wo, hL, hL2, hlo, hwi, k⟩ := h
    refine ⟨_, (pss_cons (ps_set (i := 5) sc__law_kept_told.nd rfl (Or.inr rfl) (pe_call (ok__law_ties T) (hr.mono (by decide)) rfl T.m__law_ties T.F__law_ties.kp (b__law_ties T) .nil pass0 (pa_cons (pv 0) pa_nil)))
  (pss_cons (ps_set (i := 6) sc__law_kept_told.nd rfl (Or.inl rfl) (pe_call (ok__law_by_line T) (hr.mono (by decide)) rfl T.m__law_by_line T.F__law_by_line.kp (b__law_by_line T) .nil pass0 (pa_cons (pv 5) (pa_cons (pv 1) pa_nil))))
  (pss_cons (ps_set (i := 7) sc__law_kept_told.nd rfl (Or.inl rfl) (pe_call (ok__law_kept_book T) (hr.mono (by decide)) rfl T.m__law_kept_book T.F__law_kept_book.kp (b__law_kept_book T) .nil pass0 (pa_cons (pv 0) (pa_cons (pv 3) pa_nil))))
  (pss_cons (ps_set (i := 8) sc__law_kept_told.nd rfl (Or.inl rfl) (pe_call (ok__law_by_lineL T) (hr.mono (by decide)) rfl T.m__law_by_line T.F__law_by_line.kp (b__law_by_line T) .nil pass0 (pa_cons (pe_call (ok__law_ties T) (hr.mono (by decide)) rfl T.m__law_ties T.F__law_ties.kp (b__law_ties T) .nil pass0 (pa_cons (pv 7) pa_nil)) (pa_cons (pe_lc (own := [("_law_x", 13)]) (g := gName 13) rfl sc__law_kept_told.nd (piT K (pv 1)) (blkOk_by (N := ["_law_web", "_law_line_here", "_law_later", "_law_lot_here", "_law_within", "_law_ties_here", "_law_turned", "_law_kept", "_law_due", "_law_other_here", "_law_inner", "_law_once", "_law_beneath", "_law_x", "_law_k", "_law_tie"]) (sc := defScope s__law_kept_told) (by decide +kernel)) (fun _ _ _ _ _ => (pg_name (i := 13) (x := "_law_x") sc__law_kept_told.nd rfl (Or.inl rfl))) (fun _ _ _ _ _ => (pts_one (pt_cmpR (inS K) (pv 13) (pv 3) (by with_unfolding_all rfl)))) (fun _ _ _ _ _ => (pe_tidx (K := K) (pv 3) (pa_cons (pv 13) pa_nil)))) pa_nil))))
  (pss_cons (ps_set (i := 9) sc__law_kept_told.nd rfl (Or.inl rfl) (pe_call (ok__law_by_lineL T) (hr.mono (by decide)) rfl T.m__law_by_line T.F__law_by_line.kp (b__law_by_line T) .nil pass0 (pa_cons (pe_call (ok__law_ties T) (hr.mono (by decide)) rfl T.m__law_ties T.F__law_ties.kp (b__law_ties T) .nil pass0 (pa_cons (pv 7) pa_nil)) (pa_cons (pe_lc (own := [("_law_x", 13)]) (g := gName 13) rfl sc__law_kept_told.nd (piT K (pv 2)) (blkOk_by (N := ["_law_web", "_law_line_here", "_law_later", "_law_lot_here", "_law_within", "_law_ties_here", "_law_turned", "_law_kept", "_law_due", "_law_other_here", "_law_inner", "_law_once", "_law_beneath", "_law_x", "_law_k", "_law_tie"]) (sc := defScope s__law_kept_told) (by decide +kernel)) (fun _ _ _ _ _ => (pg_name (i := 13) (x := "_law_x") sc__law_kept_told.nd rfl (Or.inl rfl))) (fun _ _ _ _ _ => (pts_one (pt_cmpR (inS K) (pv 13) (pv 3) (by with_unfolding_all rfl)))) (fun _ _ _ _ _ => (pe_tidx (K := K) (pv 3) (pa_cons (pv 13) pa_nil)))) pa_nil))))
  (pss_cons (ps_if (PW.pt (pw_or (pt_not (pt_val (pe_call (ok__law_same T) (hr.mono (by decide)) rfl T.m__law_same T.F__law_same.kp (b__law_same T) .nil pass0 (pa_cons (pe_call (ok_kept_to T) (hr.mono (by decide)) rfl T.m_kept_to T.F_kept_to.kp (b_kept_to T) .nil passL (pa_cons (pv 0) (pa_cons (pv 3) pa_nil))) (pa_cons (pv 7) pa_nil))))) (pw_or1 (pt_not (pt_val (pe_call (ok__law_same T) (hr.mono (by decide)) rfl T.m__law_same T.F__law_same.kp (b__law_same T) .nil pass0 (pa_cons (pe_call (ok_restricted T) (hr.mono (by decide)) rfl T.m_restricted T.F_restricted.kp (b_restricted T) .nil passL (pa_cons (pv 0) (pa_cons (pv 6) (pa_cons (pv 3) pa_nil)))) (pa_cons (pv 8) pa_nil)))))))) (pss_one (ps_ret pe_bl))
  pss_nil)
  (pss_cons (ps_set (i := 10) sc__law_kept_told.nd rfl (Or.inr rfl) (pe_callTy (tupN K) (by rfl) T.g_tuple (by decide +kernel) (pa_cons (pe_lc (own := [("_law_k", 14)]) (g := gName 14) rfl sc__law_kept_told.nd (piT K (pv 4)) (blkOk_by (N := ["_law_web", "_law_line_here", "_law_later", "_law_lot_here", "_law_within", "_law_ties_here", "_law_turned", "_law_kept", "_law_due", "_law_other_here", "_law_inner", "_law_once", "_law_beneath", "_law_x", "_law_k", "_law_tie"]) (sc := defScope s__law_kept_told) (by decide +kernel)) (fun _ _ _ _ _ => (pg_name (i := 14) (x := "_law_k") sc__law_kept_told.nd rfl (Or.inl rfl))) (fun _ _ _ _ _ => pts_nil) (fun _ _ _ _ _ => (pe_ix (ixT K) (pv 3) (pv 14) (fun _ _ => rfl)))) pa_nil)))
  (pss_cons (ps_set (i := 11) sc__law_kept_told.nd rfl (Or.inl rfl) (pe_call (ok__law_by_lineL T) (hr.mono (by decide)) rfl T.m__law_by_line T.F__law_by_line.kp (b__law_by_line T) .nil pass0 (pa_cons (pe_call (ok__law_ties T) (hr.mono (by decide)) rfl T.m__law_ties T.F__law_ties.kp (b__law_ties T) .nil pass0 (pa_cons (pe_call (ok__law_kept_book T) (hr.mono (by decide)) rfl T.m__law_kept_book T.F__law_kept_book.kp (b__law_kept_book T) .nil pass0 (pa_cons (pv 0) (pa_cons (pv 10) pa_nil))) pa_nil)) (pa_cons (pe_lc (own := [("_law_x", 13)]) (g := gName 13) rfl sc__law_kept_told.nd (piT K (pv 1)) (blkOk_by (N := ["_law_web", "_law_line_here", "_law_later", "_law_lot_here", "_law_within", "_law_ties_here", "_law_turned", "_law_kept", "_law_due", "_law_other_here", "_law_inner", "_law_once", "_law_beneath", "_law_x", "_law_k", "_law_tie"]) (sc := defScope s__law_kept_told) (by decide +kernel)) (fun _ _ _ _ _ => (pg_name (i := 13) (x := "_law_x") sc__law_kept_told.nd rfl (Or.inl rfl))) (fun _ _ _ _ _ => (pts_one (pt_cmpR (inS K) (pv 13) (pv 10) (by with_unfolding_all rfl)))) (fun _ _ _ _ _ => (pe_tidx (K := K) (pv 10) (pa_cons (pv 13) pa_nil)))) pa_nil))))
  (pss_cons (ps_if (pt_not (pt_val (pe_call (ok__law_same T) (hr.mono (by decide)) rfl T.m__law_same T.F__law_same.kp (b__law_same T) .nil pass0 (pa_cons (pe_callKO (ok_restricted T) (hr.mono (by decide)) rfl T.m_restricted T.F_restricted.kp (kb_restricted_lot_sorting_book T) passL (pk_cons (pv 10) (pk_cons (pv 6) (pk_cons (pv 0) pk_nil)))) (pa_cons (pv 11) pa_nil))))) (pss_one (ps_ret pe_bl))
  pss_nil)
  (pss_cons (ps_if (PW.pt (pw_or (pt_not (pt_val (pe_call (ok__law_same T) (hr.mono (by decide)) rfl T.m__law_same T.F__law_same.kp (b__law_same T) .nil pass0 (pa_cons (pe_call (ok_restricted T) (hr.mono (by decide)) rfl T.m_restricted T.F_restricted.kp (b_restricted T) .nil passL (pa_cons (pv 7) (pa_cons (pv 8) (pa_cons (pv 4) pa_nil)))) (pa_cons (pv 11) pa_nil))))) (pw_or1 (pt_not (pt_val (pe_call (ok__law_same T) (hr.mono (by decide)) rfl T.m__law_same T.F__law_same.kp (b__law_same T) .nil pass0 (pa_cons (pe_call (ok_kept_to T) (hr.mono (by decide)) rfl T.m_kept_to T.F_kept_to.kp (b_kept_to T) .nil passL (pa_cons (pv 7) (pa_cons (pv 4) pa_nil))) (pa_cons (pe_call (ok_kept_to T) (hr.mono (by decide)) rfl T.m_kept_to T.F_kept_to.kp (b_kept_to T) .nil passL (pa_cons (pv 0) (pa_cons (pv 10) pa_nil))) pa_nil)))))))) (pss_one (ps_ret pe_bl))
  pss_nil)
  (pss_cons (ps_if (pt_not (pt_val (pe_call (ok__law_same T) (hr.mono (by decide)) rfl T.m__law_same T.F__law_same.kp (b__law_same T) .nil pass0 (pa_cons (pe_call (ok_restricted T) (hr.mono (by decide)) rfl T.m_restricted T.F_restricted.kp (b_restricted T) .nil passL (pa_cons (pv 0) (pa_cons (pv 6) (pa_cons (pe_tupRgN K rfl rfl T.g_tuple (prg_1 rfl T.g_range (pe_ix (ixT K) (pv 0) pe_int (fun _ _ => rfl)))) pa_nil)))) (pa_cons (pv 6) pa_nil))))) (pss_one (ps_ret pe_bl))
  pss_nil)
  (pss_cons (ps_set (i := 12) sc__law_kept_told.nd rfl (Or.inl rfl) (pe_notK K (pe_lc (own := [("_law_tie", 15)]) (g := gName 15) rfl sc__law_kept_told.nd (piT K (pv 6)) (blkOk_by (N := ["_law_web", "_law_line_here", "_law_later", "_law_lot_here", "_law_within", "_law_ties_here", "_law_turned", "_law_kept", "_law_due", "_law_other_here", "_law_inner", "_law_once", "_law_beneath", "_law_x", "_law_k", "_law_tie"]) (sc := defScope s__law_kept_told) (by decide +kernel)) (fun _ _ _ _ _ => (pg_name (i := 15) (x := "_law_tie") sc__law_kept_told.nd rfl (Or.inl rfl))) (fun _ _ _ _ _ => (pts_one (pt_cmpR (notInR K (hu65 hr)) (pv 15) (pe_call (ok__law_by_line T) (hr.mono (by decide)) rfl T.m__law_by_line T.F__law_by_line.kp (b__law_by_line T) .nil pass0 (pa_cons (pv 5) (pa_cons (pv 2) pa_nil))) (by with_unfolding_all rfl)))) (fun _ _ _ _ _ => (pv 15)))))
  (pss_one (ps_ret (pe_or (pe_not (pv 12)) (pe_one (pe_call (ok__law_same T) (hr.mono (by decide)) rfl T.m__law_same T.F__law_same.kp (b__law_same T) .nil pass0 (pa_cons (pe_call (ok_is_beneath T) (hr.mono (by decide)) rfl T.m_is_beneath T.F_is_beneath.kp (b_is_beneath T) .nil passL (pa_cons (pv 7) (pa_cons (pv 8) (pa_cons (pv 9) pa_nil)))) (pa_cons pe_bl pa_nil))))))))))))))))))), ?_⟩
    have hr' := wo.2.2.2
    have hin : RowsIn n rows := rowsOk_in hr'
    have n10 := wo.2.1
    have n1 := wo.1
    have h45 : In45 n rows := ⟨hin, hL.2, by omega⟩
    have lrows : rows.length ≤ 400 := by have := wo.2.2.1; omega
    have llot : ((lot.length : Nat) : Int) ≤ 10 := by
      have := nodup_le (lot_nd hlo) (m := rgI n.toNat) (fun x hx => rgI_mem.mpr (by have := hlo.2.2 x hx; omega))
      rw [rgI_length] at this
      omega
    have lwi : ((within.length : Nat) : Int) ≤ 10 := by
      have := nodup_le (lot_nd hwi) (m := rgI lot.length) (fun x hx => rgI_mem.mpr (hwi.2.2 x hx))
      rw [rgI_length] at this
      omega
    have kin := kept_in lot rows
    have k45 : In45 (lot.length : Nat) (keptRows lot rows) := ⟨kin, by omega, by omega⟩
    have kL := kept_ln hL hlo
    have kL2 := kept_ln hL2 hlo
    have hinn := inner_lot hlo hwi
    -- ties, turned, kept
    refine ⟨_, rfl, v, n, rows, rfl, hv, hL.2, by omega, fun p1 H1 s1 _ r1 => ?_⟩
    refine ⟨_, rfl, _, rfl, .ref p1, a, _, line, rfl, r1, ta.same s1, fit_in hL, fun tv H2 s2 r2 => ?_⟩
    have s02 := s1.trans s2
    refine ⟨_, rfl, _, rfl, v, c, n, rows, lot, rfl, hv.same s02, tc.same s02, lrows, fun kv H3 s3 r3 => ?_⟩
    have s03 := s02.trans s3
    have r2 : Rp K H3 tv (dRows (fitT n rows line)) := r2.same s3
    -- due
    refine ⟨_, rfl, kv, _, _, rfl, r3, by omega, by omega, fun p4 H4 s4 _ r4 => ?_⟩
    have s04 := s03.trans s4
    have ta4 := ta.same s04
    have tc4 := tc.same s04
    refine ⟨_, rfl, a, rfl, ⟨_, ta4.1.1⟩, fun Da hDa => ?_⟩
    refine lcT (K := K) (xs := line.map V.int) (fun j => decide (line.getD j 0 ∈ lot)) (fun j => .int ((lot.idxOf (line.getD j 0) : Nat) : Int)) hDa ta4.1.1 (by rw [List.length_map]; exact ta4.2) (fun _ _ _ => rfl) (fun j x Hc hj sc Q1 Q2 k1 k2 => ?_) (fun zs Hc sc hzDa rc => ?_)
    · obtain ⟨z, hz4, rfl⟩ := lab_at hj
      have eg := getD_at hz4
      rw [eg] at k1 k2
      refine ⟨rfl, _, rfl, _, rfl, ?_⟩
      refine inL_use (.inr (tc4.same sc).1.1) ⟨_, rfl, ?_⟩
      cases cm : decide (z ∈ lot) with
      | false => exact iteF (k2 cm _ (Same.refl _))
      | true => exact iteT ⟨_, rfl, c, lot, rfl, (tc4.same sc).1.1, (tc4.same sc).1.2, _, rfl, z, rfl, (tc4.same sc).1.1, of_decide_eq_true cm, k1 cm _ _ (Same.refl _) (.int _)⟩
    have ezDa : ((List.range (line.map V.int).length).filter fun j => decide (line.getD j 0 ∈ lot)).map (fun j => PyData.int ((lot.idxOf (line.getD j 0) : Nat) : Int)) = (keptRow lot line).map PyData.int := by
      unfold keptRow
      rw [List.length_map, List.map_map]
      exact filter_map_range (fun x : Int => decide (x ∈ lot)) (fun x => PyData.int ((lot.idxOf x : Nat) : Int)) 0 line
    rw [ezDa] at rc
    have ezs := rc.ofInts
    subst ezs
    have lkDa : (keptRow lot line).length ≤ 1000 := by
      unfold keptRow
      rw [List.length_map]
      exact Nat.le_trans (List.length_filter_le _ _) ta4.2
    dsimp only [tNil]
    refine ⟨.ref p4, Da, _, keptRow lot line, rfl, r4.same sc, ⟨SqL.of hzDa, lkDa⟩, fit_in kL, fun dv H5 s5 r5 => ?_⟩
    have s45 := sc.trans s5
    have s05 := s04.trans s45
    -- other
    refine ⟨_, rfl, kv, _, _, rfl, r3.same (s4.trans s45), by omega, by omega, fun p6 H6 s6 _ r6 => ?_⟩
    have s06 := s05.trans s6
    have tb6 := tb.same s06
    have tc6 := tc.same s06
    clear sc
    refine ⟨_, rfl, b, rfl, ⟨_, tb6.1.1⟩, fun Db hDb => ?_⟩
    refine lcT (K := K) (xs := later.map V.int) (fun j => decide (later.getD j 0 ∈ lot)) (fun j => .int ((lot.idxOf (later.getD j 0) : Nat) : Int)) hDb tb6.1.1 (by rw [List.length_map]; exact tb6.2) (fun _ _ _ => rfl) (fun j x Hc hj sc Q1 Q2 k1 k2 => ?_) (fun zs Hc sc hzDb rc => ?_)
    · obtain ⟨z, hz4, rfl⟩ := lab_at hj
      have eg := getD_at hz4
      rw [eg] at k1 k2
      refine ⟨rfl, _, rfl, _, rfl, ?_⟩
      refine inL_use (.inr (tc6.same sc).1.1) ⟨_, rfl, ?_⟩
      cases cm : decide (z ∈ lot) with
      | false => exact iteF (k2 cm _ (Same.refl _))
      | true => exact iteT ⟨_, rfl, c, lot, rfl, (tc6.same sc).1.1, (tc6.same sc).1.2, _, rfl, z, rfl, (tc6.same sc).1.1, of_decide_eq_true cm, k1 cm _ _ (Same.refl _) (.int _)⟩
    have ezDb : ((List.range (later.map V.int).length).filter fun j => decide (later.getD j 0 ∈ lot)).map (fun j => PyData.int ((lot.idxOf (later.getD j 0) : Nat) : Int)) = (keptRow lot later).map PyData.int := by
      unfold keptRow
      rw [List.length_map, List.map_map]
      exact filter_map_range (fun x : Int => decide (x ∈ lot)) (fun x => PyData.int ((lot.idxOf x : Nat) : Int)) 0 later
    rw [ezDb] at rc
    have ezs := rc.ofInts
    subst ezs
    have lkDb : (keptRow lot later).length ≤ 1000 := by
      unfold keptRow
      rw [List.length_map]
      exact Nat.le_trans (List.length_filter_le _ _) tb6.2
    refine ⟨.ref p6, Db, _, keptRow lot later, rfl, r6.same sc, ⟨SqL.of hzDb, lkDb⟩, fit_in kL2, fun ov H7 s7 r7 => ?_⟩
    have s67 := sc.trans s7
    have s07 := s06.trans s67
    have s37 := s4.trans (s45.trans (s6.trans s67))
    have r3 := r3.same s37
    have r2 := r2.same s37
    have r5 : Rp K H7 dv (dRows (fitT (lot.length : Nat) (keptRows lot rows) (keptRow lot line))) := r5.same (s6.trans s67)
    have r7 : Rp K H7 ov (dRows (fitT (lot.length : Nat) (keptRows lot rows) (keptRow lot later))) := r7
    have r1 := r1.same (s2.trans (s3.trans s37))
    have hv := hv.same s07
    have ta := ta.same s07
    have tb := tb.same s07
    have tc := tc.same s07
    have td := td.same s07
    clear s67 s45 s37 s03 s04 s05 s06 ta4 tc4 tb6 tc6 sc
    -- kept_to, restricted
    refine ⟨_, rfl, _, rfl, v, .ref c, _, n, rows, rfl, hv, tc.rp, fun _ _ => tc.1.2, trivial, out_ok (keptTo_eq hlo) fun z H8 s8 rz => ⟨_, rfl, z, kv, _, _, rfl, rz, r3.same s8, noN_book _ _, deep_bookD _ _, fun bb H9 s9 e9 => ⟨_, rfl, ?_⟩⟩⟩
    have eb : bb = true := e9.mpr rfl
    subst eb
    have s79 := s8.trans s9
    refine iteF ⟨_, rfl, _, rfl, _, rfl, v, tv, .ref c, _, _, n, rows, rfl, hv.same s79, r2.same s79, (tc.same s79).rp, fun _ _ => (tc.same s79).1.2, h45, out_ok (restricted_eq hin hL hlo) fun z H10 s10 rz => ⟨_, rfl, z, dv, _, _, rfl, rz, r5.same (s79.trans s10), noN_rows _, Nat.le_trans (deep_dRows _) (by decide), fun bb H11 s11 e11 => ⟨_, rfl, ?_⟩⟩⟩
    have eb : bb = true := e11.mpr rfl
    subst eb
    have s7b := s79.trans (s10.trans s11)
    refine iteF ?_
    -- inner
    have tdb := td.same s7b
    have tcb := tc.same s7b
    refine ⟨_, rfl, d, rfl, ⟨_, tdb.1.1⟩, fun D3 hD3 => ?_⟩
    refine lcT (K := K) (xs := within.map V.int) (fun _ => true) (fun j => .int (lot.getD (within.getD j 0).toNat 0)) hD3 tdb.1.1 (by rw [List.length_map]; exact tdb.2) (fun _ _ _ => rfl) (fun j x H12 hj s12 Q1 Q2 k1 k2 => ?_) (fun zs H12 s12 hz12 r12 => ?_)
    · obtain ⟨z, hz4, rfl⟩ := lab_at hj
      have eg := getD_at hz4
      rw [eg] at k1
      have hb := hwi.2.2 z (List.mem_of_getElem? hz4)
      exact ⟨rfl, _, rfl, _, rfl, c, _, _, _, rfl, rfl, (tcb.same s12).1.1, at_of (j := z.toNat) (by omega) (mapD (by omega)), k1 rfl _ _ (Same.refl _) (.int _)⟩
    rw [filter_true] at r12
    have ez12 : (List.range (within.map V.int).length).map (fun j => PyData.int (lot.getD (within.getD j 0).toNat 0)) = (innerL lot within).map PyData.int := by
      unfold innerL labels
      rw [List.length_map, List.map_map]
      exact map_range (fun x : Int => PyData.int (lot.getD x.toNat 0)) 0 within
    rw [ez12] at r12
    have ezs := r12.ofInts
    subst ezs
    refine ⟨D3, _, rfl, SqL.of hz12, fun q13 o hq13 ho => ?_⟩
    have s13 := same_upd (o := .frz o (.tup ((innerL lot within).map V.int))) hq13
    have lin := inner_len lot within
    have ti : TI K (upd H12 q13 (.frz o (.tup ((innerL lot within).map V.int)))) q13 (innerL lot within) := ⟨tn_new ho, by rw [lin]; exact td.2⟩
    have s7d := s7b.trans (s12.trans s13)
    generalize upd H12 q13 (.frz o (.tup ((innerL lot within).map V.int))) = H13 at *
    have iin := kept_in (innerL lot within) rows
    have iL := kept_ln hL hinn
    -- once
    refine ⟨_, rfl, _, rfl, v, q13, n, rows, innerL lot within, rfl, hv.same s7d, ti, lrows, fun ib H14 s14 r14 => ?_⟩
    refine ⟨ib, _, _, rfl, r14, by omega, by omega, fun p15 H15 s15 _ r15 => ?_⟩
    have s7f := s7d.trans (s14.trans s15)
    have ta15 := ta.same s7f
    have ti15 := ti.same (s14.trans s15)
    refine ⟨_, rfl, a, rfl, ⟨_, ta15.1.1⟩, fun Dc hDc => ?_⟩
    refine lcT (K := K) (xs := line.map V.int) (fun j => decide (line.getD j 0 ∈ (innerL lot within))) (fun j => .int (((innerL lot within).idxOf (line.getD j 0) : Nat) : Int)) hDc ta15.1.1 (by rw [List.length_map]; exact ta15.2) (fun _ _ _ => rfl) (fun j x Hc hj sc Q1 Q2 k1 k2 => ?_) (fun zs Hc sc hzDc rc => ?_)
    · obtain ⟨z, hz4, rfl⟩ := lab_at hj
      have eg := getD_at hz4
      rw [eg] at k1 k2
      refine ⟨rfl, _, rfl, _, rfl, ?_⟩
      refine inL_use (.inr (ti15.same sc).1.1) ⟨_, rfl, ?_⟩
      cases cm : decide (z ∈ (innerL lot within)) with
      | false => exact iteF (k2 cm _ (Same.refl _))
      | true => exact iteT ⟨_, rfl, q13, (innerL lot within), rfl, (ti15.same sc).1.1, (ti15.same sc).1.2, _, rfl, z, rfl, (ti15.same sc).1.1, of_decide_eq_true cm, k1 cm _ _ (Same.refl _) (.int _)⟩
    have ezDc : ((List.range (line.map V.int).length).filter fun j => decide (line.getD j 0 ∈ (innerL lot within))).map (fun j => PyData.int (((innerL lot within).idxOf (line.getD j 0) : Nat) : Int)) = (keptRow (innerL lot within) line).map PyData.int := by
      unfold keptRow
      rw [List.length_map, List.map_map]
      exact filter_map_range (fun x : Int => decide (x ∈ (innerL lot within))) (fun x => PyData.int (((innerL lot within).idxOf x : Nat) : Int)) 0 line
    rw [ezDc] at rc
    have ezs := rc.ofInts
    subst ezs
    have lkDc : (keptRow (innerL lot within) line).length ≤ 1000 := by
      unfold keptRow
      rw [List.length_map]
      exact Nat.le_trans (List.length_filter_le _ _) ta15.2
    refine ⟨.ref p15, Dc, _, keptRow (innerL lot within) line, rfl, r15.same sc, ⟨SqL.of hzDc, lkDc⟩, fit_in iL, fun onv H16 s16 r16 => ?_⟩
    have s7g := s7f.trans (sc.trans s16)
    have ti := ti15.same (sc.trans s16)
    have r16 : Rp K H16 onv (dRows (fitT ((innerL lot within).length : Nat) (keptRows (innerL lot within) rows) (keptRow (innerL lot within) line))) := r16
    have hv := hv.same s7g
    have r2 := r2.same s7g
    have r3 := r3.same s7g
    have r5 := r5.same s7g
    have r7 := r7.same s7g
    have r1 := r1.same s7g
    have tb := tb.same s7g
    have tc := tc.same s7g
    have td := td.same s7g
    have s0g := s07.trans s7g
    clear s7f s7d s7b s79 s7g sc ta15 ti15
    -- restricted to inner
    refine ⟨_, rfl, _, rfl, _, rfl, v, tv, .ref q13, _, _, n, rows, rfl, hv, r2, ti.rp, fun _ _ => ti.1.2, h45, out_ok (restricted_eq hin hL hinn) fun z H17 s17 rz => ⟨_, rfl, z, onv, _, _, rfl, rz, r16.same s17, noN_rows _, Nat.le_trans (deep_dRows _) (by decide), fun bb H18 s18 e18 => ⟨_, rfl, ?_⟩⟩⟩
    have eb : bb = true := e18.mpr rfl
    subst eb
    have t18 := s17.trans s18
    have kk : restrictedX (lot.length : Nat) (keptRows lot rows) (dRows (fitT (lot.length : Nat) (keptRows lot rows) (keptRow lot line))) (dTup within) = .ok (dRows (fitT ((innerL lot within).length : Nat) (keptRows (innerL lot within) rows) (keptRow (innerL lot within) line))) := by
      rw [restricted_eq kin kL hwi, keptRows_kept hlo hwi, kept_kept hlo hwi, lin]
    refine iteF ⟨_, rfl, _, rfl, _, rfl, kv, dv, .ref d, _, _, _, _, rfl, r3.same t18, r5.same t18, (td.same t18).rp, fun _ _ => (td.same t18).1.2, k45, out_ok kk fun z H19 s19 rz => ⟨_, rfl, z, onv, _, _, rfl, rz, r16.same (t18.trans s19), noN_rows _, Nat.le_trans (deep_dRows _) (by decide), fun bb H20 s20 e20 => ⟨_, rfl, ?_⟩⟩⟩
    have eb : bb = true := e20.mpr rfl
    subst eb
    have t20 := t18.trans (s19.trans s20)
    have kb : keptTo (lot.length : Nat) (keptRows lot rows) (dTup within) = .ok (bookD ((innerL lot within).length : Nat) (keptRows (innerL lot within) rows)) := by
      rw [keptTo_eq hwi, keptRows_kept hlo hwi, lin]
    refine iteF ⟨_, rfl, _, rfl, kv, .ref d, _, _, _, rfl, r3.same t20, (td.same t20).rp, fun _ _ => (td.same t20).1.2, trivial, out_ok kb fun z H21 s21 rz => ⟨_, rfl, _, rfl, v, .ref q13, _, n, rows, rfl, hv.same (t20.trans s21), (ti.same (t20.trans s21)).rp, fun _ _ => (ti.same (t20.trans s21)).1.2, trivial, out_ok (keptTo_eq hinn) fun z2 H22 s22 rz2 => ⟨z, z2, _, _, rfl, rz.same s22, rz2, noN_book _ _, deep_bookD _ _, fun bb H23 s23 e23 => ⟨_, rfl, ?_⟩⟩⟩⟩
    have eb : bb = true := e23.mpr rfl
    subst eb
    have t23 := t20.trans (s21.trans (s22.trans s23))
    refine iteF ?_
    -- all things
    obtain ⟨b0, L0, xs0, rfl, hb0, hL0, hz0, hr0⟩ := rp_book (hv.same t23)
    refine ⟨_, rfl, _, rfl, _, rfl, b0, _, 0, _, rfl, rfl, hb0, rfl, n, rfl, .of_le (by decide) (by omega) (by decide) hL.2, fun p24 H24 s24 _ t24 => ?_⟩
    rw [rgV_rgI] at t24
    have t24' : TI K H24 p24 (rgI n.toNat) := ⟨t24, by rw [rgI_length]; omega⟩
    have t2324 := t23.trans s24
    refine ⟨.ref b0, tv, .ref p24, _, _, n, rows, rfl, hv.same t2324, r2.same t2324, t24'.rp, fun _ _ => t24'.1.2, h45, out_ok (restricted_all hin hL n1) fun z H25 s25 rz => ⟨_, rfl, z, tv, _, _, rfl, rz, r2.same (t2324.trans s25), noN_rows _, Nat.le_trans (deep_dRows _) (by decide), fun bb H26 s26 e26 => ⟨_, rfl, ?_⟩⟩⟩
    have eb : bb = true := e26.mpr rfl
    subst eb
    have t26 := t2324.trans (s25.trans s26)
    refine iteF ?_
    -- beneath
    obtain ⟨aT, xT, rfl, hT, zT, raT⟩ := (r2.same t26).tupA
    have lT : xT.length = (fitT n rows line).length := by rw [raT.length, List.length_map]
    have r1 := r1.same t26
    have tb := tb.same t26
    refine ⟨_, rfl, aT, rfl, ⟨_, hT⟩, fun D5 hD5 => ?_⟩
    refine lcT (K := K) (xs := xT) (fun j => !decide ((fitT n rows line).getD j [] ∈ fitT n rows later)) (fun j => dTup ((fitT n rows line).getD j [])) hD5 hT zT (fun _ _ _ => noL_dTup _) (fun j x H28 hj s28 Q1 Q2 k1 k2 => ?_) (fun ys H28 s28 hy r28 => ?_)
    · obtain ⟨t, a2, hn, rfl, tt⟩ := raT.row hj
      have en : (fitT n rows line).getD j [] = t := by rw [List.getD_eq_getElem?_getD, hn]; rfl
      rw [en] at k1 k2
      refine ⟨rfl, _, rfl, _, rfl, _, rfl, .ref p1, b, _, later, rfl, r1.same s28, tb.same s28, fit_in hL2, fun lv H29 s29 r29 => ?_⟩
      refine ⟨t, fitT n rows later, (tt.same (s28.trans s29)).rp, r29, _, rfl, ?_⟩
      show if (!decide (t ∈ fitT n rows later)) = true then _ else _
      cases c : (!decide (t ∈ fitT n rows later)) with
      | true => exact iteT ⟨_, rfl, k1 c _ _ s29 (tt.same (s28.trans s29)).rp⟩
      | false => exact iteF (k2 c _ s29)
    have ez : (((List.range xT.length).filter fun j => !decide ((fitT n rows line).getD j [] ∈ fitT n rows later)).map fun j => dTup ((fitT n rows line).getD j [])) = ((fitT n rows line).filter fun t => !decide (t ∈ fitT n rows later)).map dTup := by
      rw [lT]
      exact filter_map_range (fun t : List Int => !decide (t ∈ fitT n rows later)) (fun t => dTup t) [] (fitT n rows line)
    rw [ez] at r28
    have eb : (!(!ys.isEmpty)) = areTurned (fitT n rows line) (fitT n rows later) := by
      have hl := r28.length
      rw [List.length_map] at hl
      rw [Bool.not_not, Bool.eq_iff_iff, List.isEmpty_iff, areTurned_iff]
      constructor
      · intro e t ht
        rw [e, List.length_nil] at hl
        have := List.length_eq_zero_iff.mp hl.symm
        have := List.filter_eq_nil_iff.mp this t ht
        simpa using this
      · intro h
        have : ((fitT n rows line).filter fun t => !decide (t ∈ fitT n rows later)) = [] := List.filter_eq_nil_iff.mpr fun t ht => by simp [h t ht]
        rw [this, List.length_nil] at hl
        exact List.length_eq_zero_iff.mp hl
    refine ⟨_, .inl ⟨_, SqL.of hy, rfl⟩, ?_⟩
    rw [eb]
    have t28 := t26.trans s28
    refine ⟨_, rfl, _, rfl, ?_⟩
    cases cb : areTurned (fitT n rows line) (fitT n rows later) with
    | false => exact ⟨_, rfl, iteT (k _ (s0g.trans t28))⟩
    | true =>
      have kbe : beneathX (lot.length : Nat) (keptRows lot rows) (dRows (fitT (lot.length : Nat) (keptRows lot rows) (keptRow lot line))) (dRows (fitT (lot.length : Nat) (keptRows lot rows) (keptRow lot later))) = .ok (.bool true) := by
        rw [beneath_eq kin kL kL2, kept_beneath hL hL2 hlo cb]
      refine ⟨_, rfl, iteF ⟨_, rfl, _, rfl, _, rfl, kv, dv, ov, _, _, _, _, rfl, r3.same t28, r5.same t28, r7.same t28, k45, out_ok kbe fun z H30 s30 rz => ⟨z, .bl true, _, _, rfl, rz, .bl true, rfl, Nat.zero_le _, fun bb H31 s31 e31 => ?_⟩⟩⟩
      have eb : bb = true := e31.mpr rfl
      subst eb
      exact k _ (s0g.trans (t28.trans (s30.trans s31)))
end
end LK
namespace LK
open PySem PySem.Spec PyProof.Rows L2
def spMirT (K : PySem.W.Frag) : Sp := fun vs H Q _ => ∃ (v t1 : V) (a : Addr) (n : Int) (rows : List (List Int)) (line : List Int), vs = [v, t1, .ref a] ∧ Rp K H v (bookD n rows) ∧ Rp K H t1 (dRows (fitT n rows line)) ∧ TI K H a line ∧ WebOk n rows ∧ Ln n line ∧ ∀ H', Same H H' → Q (.bl true) H'
section
variable {P : Program} {w : World} {K : PySem.W.Frag} {mg : Str → Option Value} {base : Heap} {ad : Nat → Addr} {fd : Nat → FuncData}
theorem row_len45 {n : Int} {r : List Int} (h10 : n ≤ 10) (h : RowOk n r) : r.length ≤ 10 := by
  have := nodup_le (h.1.imp fun h => by omega : r.Nodup) (m := rgI n.toNat) (fun x hx => rgI_mem.mpr (by have := h.2.2 x hx; omega))
  rw [rgI_length] at this
  omega
theorem ok__law_mirrored_told (T : Txt K mg ad fd) : FnOk P w K mg base CX0 10 (ad 86) (fd 86) ["_law_web", "_law_turned", "_law_line_here"] (spMirT K) := by
  refine T.F__law_mirrored_told.ok sc__law_mirrored_told (fun vs H Q E h => ?_) (fun cdv A outer s H vs Q E hr h => ?_)
  · obtain ⟨v, t1, a, n, rows, line, rfl, _⟩ := h
    rfl
  · obtain ⟨v, t1, a, n, rows, line, rfl, hv, ht, ta, wo, hL, k⟩ := h
    refine ⟨_, (pss_cons (ps_set (i := 3) sc__law_mirrored_told.nd rfl (Or.inr rfl) (pe_ix (ixT K) (pv 0) pe_int (fun _ _ => rfl)))
  (pss_cons (ps_set (i := 4) sc__law_mirrored_told.nd rfl (Or.inl rfl) (pe_call (ok__law_named T) (hr.mono (by decide)) rfl T.m__law_named T.F__law_named.kp (b__law_named T) .nil pass0 (pa_cons (pv 0) (pa_cons (pe_lc (own := [("_law_x", 8)]) (g := gName 8) rfl sc__law_mirrored_told.nd (pi_range1 rfl T.g_range (pa_cons (pv 3) pa_nil)) (blkOk_by (N := ["_law_web", "_law_turned", "_law_line_here", "_law_size", "_law_glass", "_law_due", "_law_orders", "_law_row", "_law_x", "_law_tie"]) (sc := defScope s__law_mirrored_told) (by decide +kernel)) (fun _ _ _ _ _ => (pg_name (i := 8) (x := "_law_x") sc__law_mirrored_told.nd rfl (Or.inl rfl))) (fun _ _ _ _ _ => pts_nil) (fun _ _ _ _ _ => (pe_op op_sub (pe_op op_sub (pv 3) pe_int) (pv 8)))) pa_nil))))
  (pss_cons (ps_set (i := 5) sc__law_mirrored_told.nd rfl (Or.inl rfl) (pe_callTy (tupOf K) (by rfl) T.g_tuple (by decide +kernel) (pa_cons (pe_callB (srtQ K) (by rfl) T.g_sorted (by decide +kernel) (pa_cons (pe_lc (own := [("_law_tie", 9)]) (g := gName 9) rfl sc__law_mirrored_told.nd (piT K (pv 1)) (blkOk_by (N := ["_law_web", "_law_turned", "_law_line_here", "_law_size", "_law_glass", "_law_due", "_law_orders", "_law_row", "_law_x", "_law_tie"]) (sc := defScope s__law_mirrored_told) (by decide +kernel)) (fun _ _ _ _ _ => (pg_name (i := 9) (x := "_law_tie") sc__law_mirrored_told.nd rfl (Or.inl rfl))) (fun _ _ _ _ _ => pts_nil) (fun _ _ _ _ _ => (pe_tup (pa_cons (pe_op op_sub (pe_op op_sub (pv 3) pe_int) (pe_ix (ixT K) (pv 9) pe_int (fun _ _ => rfl))) (pa_cons (pe_op op_sub (pe_op op_sub (pv 3) pe_int) (pe_ix (ixT K) (pv 9) pe_int (fun _ _ => rfl))) pa_nil))))) pa_nil)) pa_nil)))
  (pss_cons (ps_if (PW.pt (pw_or (pt_not (pt_val (pe_call (ok__law_same T) (hr.mono (by decide)) rfl T.m__law_same T.F__law_same.kp (b__law_same T) .nil pass0 (pa_cons (pe_call (ok_mirrored T) (hr.mono (by decide)) rfl T.m_mirrored T.F_mirrored.kp (b_mirrored T) .nil pass0 (pa_cons (pv 0) pa_nil)) (pa_cons (pv 4) pa_nil))))) (pw_or1 (pt_not (pt_val (pe_call (ok__law_same T) (hr.mono (by decide)) rfl T.m__law_same T.F__law_same.kp (b__law_same T) .nil pass0 (pa_cons (pe_call (ok_mirrored T) (hr.mono (by decide)) rfl T.m_mirrored T.F_mirrored.kp (b_mirrored T) .nil pass0 (pa_cons (pv 4) pa_nil)) (pa_cons (pv 0) pa_nil)))))))) (pss_one (ps_ret pe_bl))
  pss_nil)
  (pss_cons (ps_if (PW.pt (pw_or (pt_not (pt_val (pe_call (ok__law_same T) (hr.mono (by decide)) rfl T.m__law_same T.F__law_same.kp (b__law_same T) .nil pass0 (pa_cons (pe_call (ok_mirrored_sorting T) (hr.mono (by decide)) rfl T.m_mirrored_sorting T.F_mirrored_sorting.kp (b_mirrored_sorting T) .nil passL (pa_cons (pv 0) (pa_cons (pv 1) pa_nil))) (pa_cons (pv 5) pa_nil))))) (pw_or1 (pt_not (pt_val (pe_call (ok__law_same T) (hr.mono (by decide)) rfl T.m__law_same T.F__law_same.kp (b__law_same T) .nil pass0 (pa_cons (pe_call (ok_mirrored_sorting T) (hr.mono (by decide)) rfl T.m_mirrored_sorting T.F_mirrored_sorting.kp (b_mirrored_sorting T) .nil passL (pa_cons (pv 4) (pa_cons (pv 5) pa_nil))) (pa_cons (pv 1) pa_nil)))))))) (pss_one (ps_ret pe_bl))
  pss_nil)
  (pss_cons (ps_setLc (i := 6) (own := [("_law_row", 7)]) (g := gName 7) rfl sc__law_mirrored_told.nd rfl rfl (sw_true rfl rfl rfl (by decide +kernel)) (piT K (pe_ix (ixT K) (pv 0) pe_int (fun _ _ => rfl))) (blkOk_by (N := ["_law_web", "_law_turned", "_law_line_here", "_law_size", "_law_glass", "_law_due", "_law_orders", "_law_row", "_law_x", "_law_tie"]) (sc := defScope s__law_mirrored_told) (by decide +kernel)) (fun _ _ _ _ _ => (pg_name (i := 7) (x := "_law_row") sc__law_mirrored_told.nd rfl (Or.inr rfl))) (fun _ _ _ _ _ => pts_nil) (fun _ _ _ _ _ => (pe_callTy (tupOf K) (by rfl) T.g_tuple (by decide +kernel) (pa_cons (pe_lc (own := [("_law_x", 8)]) (g := gName 8) rfl sc__law_mirrored_told.nd (piT K (pe_revT K (pv 2))) (blkOk_by (N := ["_law_web", "_law_turned", "_law_line_here", "_law_size", "_law_glass", "_law_due", "_law_orders", "_law_row", "_law_x", "_law_tie"]) (sc := { kind := PySem.ScopeKind.function, names := [ (PySem.Str.ofString ".0", PySem.NameKind.local), (PySem.Str.ofString "_law_row", PySem.NameKind.cell), (PySem.Str.ofString "tuple", PySem.NameKind.globalImplicit), (PySem.Str.ofString "_law_line_here", PySem.NameKind.cell), (PySem.Str.ofString "_law_size", PySem.NameKind.cell)], isGenerator := false, isCoroutine := false, more := [] : PySem.Scope }) (by decide +kernel)) (fun _ _ _ _ _ => (pg_name (i := 8) (x := "_law_x") sc__law_mirrored_told.nd rfl (Or.inl rfl))) (fun _ _ _ _ _ => (pts_one (pt_cmpR (inS K) (pv 8) (pv 7) (by with_unfolding_all rfl)))) (fun _ _ _ _ _ => (pe_op op_sub (pe_op op_sub (pv 3) pe_int) (pv 8)))) pa_nil))))
  (pss_one (ps_ret (pe_call (ok__law_same T) (hr.mono (by decide)) rfl T.m__law_same T.F__law_same.kp (b__law_same T) .nil pass0 (pa_cons (pe_call (ok_own_orders T) (hr.mono (by decide)) rfl T.m_own_orders T.F_own_orders.kp (b_own_orders T) .nil passL (pa_cons (pv 4) (pa_cons (pv 5) pa_nil))) (pa_cons (pe_callTy (tupOf K) (by rfl) T.g_tuple (by decide +kernel) (pa_cons (pv 6) pa_nil)) pa_nil))))))))))), ?_⟩
    have hr' := wo.2.2.2
    have hin : RowsIn n rows := rowsOk_in hr'
    have n10 := wo.2.1
    have n1 := wo.1
    have hr2 : ∀ r ∈ dealt (mir n) rows, RowOk n r := deal_rows mir_deal hr'
    have hin2 := rowsOk_in hr2
    have h10 : In10 n rows := ⟨hin, hL.2, n10⟩
    have h10b : In10 n (dealt (mir n) rows) := ⟨hin2, hL.2, n10⟩
    have hTi : TiesIn n rows (fitT n rows line) := fit_tiesIn
    have hlen := tiesIn_len hTi n10
    obtain ⟨b, L, xs, rfl, hb, hL0, hz, hrr⟩ := rp_book hv
    have lx : xs.length = rows.length := by rw [hrr.length, List.length_map]
    refine ⟨_, rfl, b, _, 0, _, rfl, rfl, hb, rfl, ?_⟩
    -- glass
    refine ⟨_, rfl, _, rfl, n, rfl, by omega, by omega, fun D hD => ?_⟩
    refine lcR (K := K) (lo := 0) (n := n.toNat) (fun _ => true) (fun j => .int (mir n ((j : Nat) : Int))) hD (by omega) (fun _ _ _ => rfl) (fun j H1 hj s1 Q1 Q2 k1 k2 => ?_) (fun ys H1 s1 hy r1 => ?_)
    · refine ⟨rfl, _, rfl, _, _, rfl, rfl, _, rfl, _, _, rfl, rfl, ?_⟩
      rw [Int.zero_add]
      exact k1 rfl _ _ (Same.refl _) (.int _)
    rw [filter_true] at r1
    have ez : (List.range n.toNat).map (fun j => PyData.int (mir n ((j : Nat) : Int))) = ((rgI n.toNat).map (mir n)).map PyData.int := by
      unfold rgI
      rw [List.map_map, List.map_map]
      rfl
    rw [ez] at r1
    have ezs := r1.ofInts
    subst ezs
    have eg : relab ((rgI n.toNat).map (mir n)) rows = dealt (mir n) rows := relab_dealt (n := n) (fun x h0 h1 => rgmap_get h0 h1) hin
    refine ⟨.ref b, D, n, rows, (rgI n.toNat).map (mir n), rfl, hv.same s1, .inl (SqL.of hy), fun r hr x hx => by rw [List.length_map, rgI_length]; have := hin r hr x hx; omega, fun gv H2 s2 rg => ?_⟩
    rw [eg] at rg
    have s02 := s1.trans s2
    -- due
    obtain ⟨tt, xT, rfl, st0, lt, rt0⟩ := (ht.same s02).tupA
    have lT : xT.length = (fitT n rows line).length := by rw [rt0.length, List.length_map]
    refine ⟨_, rfl, tt, rfl, ⟨_, st0⟩, fun D2 hD2 => ?_⟩
    refine lcT (K := K) (xs := xT) (fun _ => true) (fun j => dTup [n - 1 - ((fitT n rows line).getD j []).getD 1 0, n - 1 - ((fitT n rows line).getD j []).getD 0 0]) hD2 st0 lt (fun _ _ _ => noL_dTup _) (fun i x H3 hi s3 Q1 Q2 k1 k2 => ?_) (fun ys H3 s3 hy r3 => ?_)
    · obtain ⟨t, a2, hn, rfl, tt2⟩ := rt0.row hi
      have tt2 := tt2.same s3
      have en : (fitT n rows line).getD i [] = t := by rw [List.getD_eq_getElem?_getD, hn]; rfl
      rw [en] at k1
      obtain ⟨lo, hi2, et, hlt, hhn, _⟩ := hTi.1 t (List.mem_of_getElem? hn)
      subst et
      refine ⟨rfl, _, rfl, _, _, rfl, rfl, _, rfl, a2, _, 1, _, rfl, rfl, tt2.1, rfl, _, _, rfl, rfl, _, rfl, _, _, rfl, rfl, _, rfl, a2, _, 0, _, rfl, rfl, tt2.1, rfl, _, _, rfl, rfl, (by show 2 ≤ sizeLine; decide), fun z hz4 => ?_⟩
      exact k1 rfl _ _ (same_upd hz4) (TupI.rp (ns := [n - 1 - (hi2 : Int), n - 1 - (lo : Int)]) ⟨SqT.of upd_same, by show 2 ≤ 1000; decide⟩)
    rw [filter_true] at r3
    have ez : (List.range xT.length).map (fun j => dTup [n - 1 - ((fitT n rows line).getD j []).getD 1 0, n - 1 - ((fitT n rows line).getD j []).getD 0 0]) = ((fitT n rows line).map fun t => [n - 1 - t.getD 1 0, n - 1 - t.getD 0 0]).map dTup := by
      rw [lT, List.map_map]
      exact map_range (fun t : List Int => dTup [n - 1 - t.getD 1 0, n - 1 - t.getD 0 0]) [] (fitT n rows line)
    rw [ez] at r3
    have em : mirT n (fitT n rows line) = srtP ((fitT n rows line).map fun t => [n - 1 - t.getD 1 0, n - 1 - t.getD 0 0]) := rfl
    have hMin : ∀ t ∈ (fitT n rows line).map (fun t => [n - 1 - t.getD 1 0, n - 1 - t.getD 0 0]), ∃ a b : Int, t = [a, b] ∧ (0 ≤ a ∧ a < 64) ∧ (0 ≤ b ∧ b < 64) := fun t ht => by
      obtain ⟨t0, h0, rfl⟩ := List.mem_map.mp ht
      obtain ⟨lo, hi2, rfl, hlt, hhn, _⟩ := hTi.1 t0 h0
      exact ⟨n - 1 - (hi2 : Int), n - 1 - (lo : Int), rfl, by omega, by omega⟩
    have lM : ((fitT n rows line).map fun t => [n - 1 - t.getD 1 0, n - 1 - t.getD 0 0]).length = (fitT n rows line).length := List.length_map _
    generalize hM : ((fitT n rows line).map fun t => [n - 1 - t.getD 1 0, n - 1 - t.getD 0 0]) = M at *
    have ly : ys.length = M.length := by rw [r3.length, List.length_map]
    dsimp only [tNil]
    refine ⟨D2, ys, rfl, SqL.of hy, by omega, fun x hx => ?_, fun zs p hp hpw hq => ?_⟩
    · obtain ⟨i, hi⟩ := List.getElem?_of_mem hx
      obtain ⟨t, a2, hn, rfl, tt2⟩ := r3.row hi
      obtain ⟨a, b, rfl, h1, h2⟩ := hMin t (List.mem_of_getElem? hn)
      refine ⟨[a, b], ⟨a2, rfl, tt2.1⟩, rfl, fun m hm => ?_⟩
      rcases List.mem_cons.mp hm with rfl | hm
      · exact h1
      · rw [List.mem_singleton.mp hm]
        exact h2
    obtain ⟨es, he1, he2⟩ := r3.perm hp
    obtain ⟨T', hT1, rfl⟩ := perm_rows he1
    have hpw2 := RpAll.pw (S := fun d e => ∀ a b, d = dTup a → e = dTup b → cdT a ≤ cdT b) (fun x y d1 e1 rx ry hxy a b ha hb => by
      subst ha hb
      obtain ⟨a1, rfl, t1⟩ := rx.tupI
      obtain ⟨b1, rfl, t2⟩ := ry.tupI
      exact hxy a b ⟨a1, rfl, t1.1⟩ ⟨b1, rfl, t2.1⟩) he2 hpw
    have hpw3 : T'.Pairwise fun a b => cdT a ≤ cdT b := by
      rw [List.pairwise_map] at hpw2
      exact hpw2.imp fun h => h _ _ rfl rfl
    have eT := srtP_eq hT1 hpw3 (fun a ha b hb hab => by
      obtain ⟨a1, a2, rfl, h1, h2⟩ := hMin a ha
      obtain ⟨b1, b2, rfl, h3, h4⟩ := hMin b hb
      rw [code_two, code_two] at hab
      have e1 : a1 = b1 := by omega
      have e2 : a2 = b2 := by omega
      rw [e1, e2])
    subst eT
    rw [← em] at he2
    have s4 := same_upd (o := .lst zs) hq
    refine tupL_use (SqL.of upd_same) fun p2 H5 s5 hp2 => ?_
    have rd : Rp K H5 (.ref p2) (dRows (mirT n (fitT n rows line))) := .tup hp2 (by rw [hp.length_eq]; omega) ((he2.same s4).same s5)
    have s25 := s3.trans (s4.trans s5)
    have s05 := s02.trans s25
    have hv5 := hv.same s05
    have rg5 := rg.same s25
    have ht5 := ht.same s05
    have ta5 := ta.same s05
    -- mirrored
    refine ⟨_, rfl, .ref b, n, rows, rfl, hv5, hin, hL.2, by omega, fun z H6 s6 rz => ?_⟩
    rw [mirrored_eq hL.2 hin] at rz
    refine ⟨_, rfl, z, gv, _, _, rfl, rz, rg5.same s6, noN_book _ _, deep_bookD _ _, fun bb H7 s7 e7 => ⟨_, rfl, ?_⟩⟩
    have eb : bb = true := e7.mpr rfl
    subst eb
    have s57 := s6.trans s7
    refine iteF ⟨_, rfl, gv, n, _, rfl, rg5.same s57, hin2, hL.2, by omega, fun z H8 s8 rz => ?_⟩
    rw [mirrored_eq hL.2 hin2, deal_back mir_deal hr'] at rz
    refine ⟨_, rfl, z, .ref b, _, _, rfl, rz, hv5.same (s57.trans s8), noN_book _ _, deep_bookD _ _, fun bb H9 s9 e9 => ⟨_, rfl, ?_⟩⟩
    have eb : bb = true := e9.mpr rfl
    subst eb
    have s59 := s57.trans (s8.trans s9)
    -- mirrored_sorting
    refine iteF ⟨_, rfl, _, rfl, .ref b, .ref tt, _, n, rows, rfl, hv5.same s59, ht5.same s59, h10, out_ok (mirS_eq hin hL) fun z H10 s10 rz => ⟨_, rfl, z, .ref p2, _, _, rfl, rz, rd.same (s59.trans s10), noN_rows _, Nat.le_trans (deep_dRows _) (by decide), fun bb H11 s11 e11 => ⟨_, rfl, ?_⟩⟩⟩
    have eb : bb = true := e11.mpr rfl
    subst eb
    have s5b := s59.trans (s10.trans s11)
    refine iteF ⟨_, rfl, _, rfl, gv, .ref p2, _, n, _, rfl, rg5.same s5b, rd.same s5b, h10b, out_ok (mirS_back (by omega) hr' hL) fun z H12 s12 rz => ⟨_, rfl, z, .ref tt, _, _, rfl, rz, ht5.same (s5b.trans s12), noN_rows _, Nat.le_trans (deep_dRows _) (by decide), fun bb H13 s13 e13 => ⟨_, rfl, ?_⟩⟩⟩
    have eb : bb = true := e13.mpr rfl
    subst eb
    have s5d := s5b.trans (s12.trans s13)
    refine iteF ?_
    -- orders
    have sd := s05.trans s5d
    have ta13 := ta5.same s5d
    refine ⟨_, rfl, b, _, 1, _, rfl, rfl, seqT sd hb, rfl, L, rfl, ⟨_, seqT sd hL0⟩, fun D4 hD4 => ?_⟩
    refine lcT (K := K) (xs := xs) (fun _ => true) (fun j => dTup ((line.reverse.filter fun x => decide (x ∈ rows.getD j [])).map (mir n))) hD4 (seqT sd hL0) hz (fun _ _ _ => noL_dTup _) (fun j x H14 hj s14 Q1 Q2 k1 k2 => ?_) (fun ys4 H14 s14 hy4 r14 => ?_)
    · obtain ⟨ns, a2, hn2, rfl, t⟩ := hrr.row hj
      have t := t.same (sd.trans s14)
      have en : rows.getD j [] = ns := by rw [List.getD_eq_getElem?_getD, hn2]; rfl
      rw [en] at k1
      have ta14 := ta13.same s14
      refine ⟨rfl, _, rfl, a, _, rfl, ta14.1.1, fun p15 hp15 => ⟨p15, rfl, ⟨_, SqT.of upd_same⟩, fun D5 hD5 => ?_⟩⟩
      have s15 := same_upd (o := .tup (line.map V.int).reverse) hp15
      refine lcT (K := K) (xs := (line.map V.int).reverse) (fun j => decide (line.reverse.getD j 0 ∈ ns)) (fun j => .int (mir n (line.reverse.getD j 0))) hD5 (SqT.of upd_same) (by rw [List.length_reverse, List.length_map]; exact ta.2) (fun _ _ _ => rfl) (fun z v H16 hz6 s16 Q5 Q6 k5 k6 => ?_) (fun zs H16 s16 hz16 r16 => ?_)
      · rw [← List.map_reverse] at hz6
        obtain ⟨i, hi, rfl⟩ := lab_at hz6
        have eg := getD_at hi
        rw [eg] at k5 k6
        refine ⟨rfl, _, rfl, _, rfl, ?_⟩
        refine inL_use (.inr (t.same (s15.trans s16)).1) ⟨_, rfl, ?_⟩
        cases cm : decide (i ∈ ns) with
        | false => exact iteF (k6 cm _ (Same.refl _))
        | true => exact iteT ⟨_, rfl, _, _, rfl, rfl, _, rfl, _, _, rfl, rfl, k5 cm _ _ (Same.refl _) (.int _)⟩
      · have ez2 : ((List.range (line.map V.int).reverse.length).filter fun j => decide (line.reverse.getD j 0 ∈ ns)).map (fun j => PyData.int (mir n (line.reverse.getD j 0))) = ((line.reverse.filter fun x => decide (x ∈ ns)).map (mir n)).map PyData.int := by
          rw [← List.map_reverse, List.length_map, List.map_map]
          exact filter_map_range (fun x : Int => decide (x ∈ ns)) (fun x => PyData.int (mir n x)) 0 line.reverse
        rw [ez2] at r16
        have ezs := r16.ofInts
        subst ezs
        dsimp only [tNil]
        refine tupL_use (SqL.of hz16) fun q H17 s17 hq17 => k1 rfl _ _ (s15.trans (s16.trans s17)) (TupI.rp ⟨hq17, ?_⟩)
        rw [List.length_map]
        refine Nat.le_trans (List.length_filter_le _ _) ?_
        rw [List.length_reverse]
        exact ta.2
    rw [filter_true] at r14
    have ez4 : (List.range xs.length).map (fun j => dTup ((line.reverse.filter fun x => decide (x ∈ rows.getD j [])).map (mir n))) = (rows.map fun r => (line.reverse.filter fun x => decide (x ∈ r)).map (mir n)).map dTup := by
      rw [lx, List.map_map]
      exact map_range (fun r : List Int => dTup ((line.reverse.filter fun x => decide (x ∈ r)).map (mir n))) [] rows
    rw [ez4] at r14
    have ly4 : ys4.length = rows.length := by rw [r14.length, List.length_map, List.length_map]
    have s5e := s5d.trans s14
    have h45b : In45 n (dealt (mir n) rows) := ⟨hin2, hL.2, by omega⟩
    refine ⟨_, rfl, _, rfl, gv, .ref p2, _, n, _, rfl, rg5.same s5e, rd.same s5e, ⟨h45b, fun r hr => Nat.le_trans (row_len45 n10 (hr2 r hr)) (by decide)⟩, out_ok (mir_orders (by omega) hr' hL) fun z H18 s18 rz => ?_⟩
    refine ⟨_, rfl, ?_⟩
    dsimp only [tNil]
    refine tupL_use (SqL.of (s18 _ _ hy4)) fun q H19 s19 hq19 => ?_
    refine ⟨z, .ref q, _, _, rfl, rz.same s19, .tup hq19 (by omega) (r14.same (s18.trans s19)), noN_rows _, Nat.le_trans (deep_dRows _) (by decide), fun bb H20 s20 e20 => ?_⟩
    have eb : bb = true := e20.mpr rfl
    subst eb
    exact k _ (s05.trans (s5e.trans (s18.trans (s19.trans s20))))
end
end LK
namespace LK
open PySem PySem.Spec PyProof.Rows L2
def spRebT (K : PySem.W.Frag) : Sp := fun vs H Q _ => ∃ (v t1 : V) (a b : Addr) (n : Int) (rows : List (List Int)) (line basis : List Int), vs = [v, t1, .ref a, .ref b] ∧ Rp K H v (bookD n rows) ∧ Rp K H t1 (dRows (fitT n rows line)) ∧ TI K H a line ∧ TI K H b basis ∧ WebOk n rows ∧ Ln n line ∧ Ln n basis ∧ ∀ H', Same H H' → Q (.bl true) H'
theorem rg_base {n : Int} {basis : List Int} (hB : Ln n basis) {x : Int} (h0 : 0 ≤ x) (h1 : x < n) : ((rgI n.toNat).map (ixOf basis)).getD x.toNat 0 = ixOf basis x := rgmap_get h0 h1
section
variable {P : Program} {w : World} {K : PySem.W.Frag} {mg : Str → Option Value} {base : Heap} {ad : Nat → Addr} {fd : Nat → FuncData}
theorem ok__law_rebased_told (T : Txt K mg ad fd) : FnOk P w K mg base CX0 11 (ad 87) (fd 87) ["_law_web", "_law_turned", "_law_line_here", "_law_basis"] (spRebT K) := by
  refine T.F__law_rebased_told.ok sc__law_rebased_told (fun vs H Q E h => ?_) (fun cdv A outer s H vs Q E hr h => ?_)
  · obtain ⟨v, t1, a, b, n, rows, line, basis, rfl, _⟩ := h
    rfl
  · obtain ⟨v, t1, a, c, n, rows, line, basis, rfl, hv, ht, ta, tb, wo, hL, hB, k⟩ := h
    refine ⟨_, (pss_cons (ps_set (i := 4) sc__law_rebased_told.nd rfl (Or.inr rfl) (pe_callTy (tupN K) (by rfl) T.g_tuple (by decide +kernel) (pa_cons (pe_lc (own := [("_law_x", 9)]) (g := gName 9) rfl sc__law_rebased_told.nd (pi_range1 rfl T.g_range (pa_cons (pe_ix (ixT K) (pv 0) pe_int (fun _ _ => rfl)) pa_nil)) (blkOk_by (N := ["_law_web", "_law_turned", "_law_line_here", "_law_basis", "_law_names", "_law_anew", "_law_due", "_law_orders", "_law_row", "_law_x"]) (sc := defScope s__law_rebased_told) (by decide +kernel)) (fun _ _ _ _ _ => (pg_name (i := 9) (x := "_law_x") sc__law_rebased_told.nd rfl (Or.inl rfl))) (fun _ _ _ _ _ => pts_nil) (fun _ _ _ _ _ => (pe_tidx (K := K) (pv 3) (pa_cons (pv 9) pa_nil)))) pa_nil)))
  (pss_cons (ps_set (i := 5) sc__law_rebased_told.nd rfl (Or.inl rfl) (pe_call (ok__law_named T) (hr.mono (by decide)) rfl T.m__law_named T.F__law_named.kp (b__law_named T) .nil pass0 (pa_cons (pv 0) (pa_cons (pv 4) pa_nil))))
  (pss_cons (ps_set (i := 6) sc__law_rebased_told.nd rfl (Or.inl rfl) (pe_call (ok__law_by_lineL T) (hr.mono (by decide)) rfl T.m__law_by_line T.F__law_by_line.kp (b__law_by_line T) .nil pass0 (pa_cons (pe_call (ok__law_ties T) (hr.mono (by decide)) rfl T.m__law_ties T.F__law_ties.kp (b__law_ties T) .nil pass0 (pa_cons (pv 5) pa_nil)) (pa_cons (pe_lc (own := [("_law_x", 9)]) (g := gName 9) rfl sc__law_rebased_told.nd (piT K (pv 2)) (blkOk_by (N := ["_law_web", "_law_turned", "_law_line_here", "_law_basis", "_law_names", "_law_anew", "_law_due", "_law_orders", "_law_row", "_law_x"]) (sc := defScope s__law_rebased_told) (by decide +kernel)) (fun _ _ _ _ _ => (pg_name (i := 9) (x := "_law_x") sc__law_rebased_told.nd rfl (Or.inl rfl))) (fun _ _ _ _ _ => pts_nil) (fun _ _ _ _ _ => (pe_ix (ixT K) (pv 4) (pv 9) (fun _ _ => rfl)))) pa_nil))))
  (pss_cons (ps_if (PW.pt (pw_or (pt_not (pt_val (pe_call (ok__law_same T) (hr.mono (by decide)) rfl T.m__law_same T.F__law_same.kp (b__law_same T) .nil pass0 (pa_cons (pe_call (ok_rebased T) (hr.mono (by decide)) rfl T.m_rebased T.F_rebased.kp (b_rebased T) .nil passL (pa_cons (pv 0) (pa_cons (pv 3) pa_nil))) (pa_cons (pv 5) pa_nil))))) (pw_or1 (pt_not (pt_val (pe_call (ok__law_same T) (hr.mono (by decide)) rfl T.m__law_same T.F__law_same.kp (b__law_same T) .nil pass0 (pa_cons (pe_call (ok_rebased_sorting T) (hr.mono (by decide)) rfl T.m_rebased_sorting T.F_rebased_sorting.kp (b_rebased_sorting T) .nil passL (pa_cons (pv 0) (pa_cons (pv 1) (pa_cons (pv 3) pa_nil)))) (pa_cons (pv 6) pa_nil)))))))) (pss_one (ps_ret pe_bl))
  pss_nil)
  (pss_cons (ps_if (PW.pt (pw_or (pt_not (pt_val (pe_call (ok__law_same T) (hr.mono (by decide)) rfl T.m__law_same T.F__law_same.kp (b__law_same T) .nil pass0 (pa_cons (pe_call (ok_rebased T) (hr.mono (by decide)) rfl T.m_rebased T.F_rebased.kp (b_rebased T) .nil passL (pa_cons (pv 5) (pa_cons (pv 4) pa_nil))) (pa_cons (pv 0) pa_nil))))) (pw_or1 (pt_not (pt_val (pe_call (ok__law_same T) (hr.mono (by decide)) rfl T.m__law_same T.F__law_same.kp (b__law_same T) .nil pass0 (pa_cons (pe_call (ok_rebased_sorting T) (hr.mono (by decide)) rfl T.m_rebased_sorting T.F_rebased_sorting.kp (b_rebased_sorting T) .nil passL (pa_cons (pv 5) (pa_cons (pv 6) (pa_cons (pv 4) pa_nil)))) (pa_cons (pv 1) pa_nil)))))))) (pss_one (ps_ret pe_bl))
  pss_nil)
  (pss_cons (ps_if (pt_not (pt_val (pe_call (ok__law_same T) (hr.mono (by decide)) rfl T.m__law_same T.F__law_same.kp (b__law_same T) .nil pass0 (pa_cons (pe_callKO (ok_rebased_sorting T) (hr.mono (by decide)) rfl T.m_rebased_sorting T.F_rebased_sorting.kp (kb_rebased_sorting_line_sorting_book T) passL (pk_cons (pv 2) (pk_cons (pv 1) (pk_cons (pv 0) pk_nil)))) (pa_cons (pe_tup pa_nil) pa_nil))))) (pss_one (ps_ret pe_bl))
  pss_nil)
  (pss_cons (ps_setLc (i := 7) (own := [("_law_row", 8)]) (g := gName 8) rfl sc__law_rebased_told.nd rfl rfl (sw_true rfl rfl rfl (by decide +kernel)) (piT K (pe_ix (ixT K) (pv 0) pe_int (fun _ _ => rfl))) (blkOk_by (N := ["_law_web", "_law_turned", "_law_line_here", "_law_basis", "_law_names", "_law_anew", "_law_due", "_law_orders", "_law_row", "_law_x"]) (sc := defScope s__law_rebased_told) (by decide +kernel)) (fun _ _ _ _ _ => (pg_name (i := 8) (x := "_law_row") sc__law_rebased_told.nd rfl (Or.inr rfl))) (fun _ _ _ _ _ => pts_nil) (fun _ _ _ _ _ => (pe_callTy (tupOf K) (by rfl) T.g_tuple (by decide +kernel) (pa_cons (pe_lc (own := [("_law_x", 9)]) (g := gName 9) rfl sc__law_rebased_told.nd (piT K (pv 2)) (blkOk_by (N := ["_law_web", "_law_turned", "_law_line_here", "_law_basis", "_law_names", "_law_anew", "_law_due", "_law_orders", "_law_row", "_law_x"]) (sc := { kind := PySem.ScopeKind.function, names := [ (PySem.Str.ofString ".0", PySem.NameKind.local), (PySem.Str.ofString "_law_row", PySem.NameKind.cell), (PySem.Str.ofString "tuple", PySem.NameKind.globalImplicit), (PySem.Str.ofString "_law_line_here", PySem.NameKind.cell), (PySem.Str.ofString "_law_names", PySem.NameKind.cell)], isGenerator := false, isCoroutine := false, more := [] : PySem.Scope }) (by decide +kernel)) (fun _ _ _ _ _ => (pg_name (i := 9) (x := "_law_x") sc__law_rebased_told.nd rfl (Or.inl rfl))) (fun _ _ _ _ _ => (pts_one (pt_cmpR (inS K) (pv 9) (pv 8) (by with_unfolding_all rfl)))) (fun _ _ _ _ _ => (pe_ix (ixT K) (pv 4) (pv 9) (fun _ _ => rfl)))) pa_nil))))
  (pss_one (ps_ret (pe_call (ok__law_same T) (hr.mono (by decide)) rfl T.m__law_same T.F__law_same.kp (b__law_same T) .nil pass0 (pa_cons (pe_call (ok_own_orders T) (hr.mono (by decide)) rfl T.m_own_orders T.F_own_orders.kp (b_own_orders T) .nil passL (pa_cons (pv 5) (pa_cons (pv 6) pa_nil))) (pa_cons (pe_callTy (tupOf K) (by rfl) T.g_tuple (by decide +kernel) (pa_cons (pv 7) pa_nil)) pa_nil)))))))))))), ?_⟩
    have hr' := wo.2.2.2
    have hin : RowsIn n rows := rowsOk_in hr'
    have n10 := wo.2.1
    have n1 := wo.1
    have BD := base_deal hB
    have hr2 : ∀ r ∈ dealt (ixOf basis) rows, RowOk n r := deal_rows BD hr'
    have hin2 := rowsOk_in hr2
    have h45 : In45 n rows := ⟨hin, hL.2, by omega⟩
    have h45b : In45 n (dealt (ixOf basis) rows) := ⟨hin2, hL.2, by omega⟩
    have hL2 : Ln n (line.map (ixOf basis)) := deal_ln BD hL
    obtain ⟨b, L, xs, rfl, hb, hL0, hz, hrr⟩ := rp_book hv
    have lx : xs.length = rows.length := by rw [hrr.length, List.length_map]
    -- names
    refine ⟨_, rfl, b, _, 0, _, rfl, rfl, hb, rfl, n, rfl, by omega, by omega, fun D hD => ?_⟩
    refine lcR (K := K) (lo := 0) (n := n.toNat) (fun _ => true) (fun j => .int (ixOf basis ((j : Nat) : Int))) hD (by omega) (fun _ _ _ => rfl) (fun j H1 hj s1 Q1 Q2 k1 k2 => ?_) (fun ys H1 s1 hy r1 => ?_)
    · have tb1 := tb.same s1
      rw [Int.zero_add]
      exact ⟨rfl, _, rfl, c, basis, rfl, tb1.1.1, tb1.1.2, _, rfl, _, rfl, tb1.1.1, hB.mem.mpr ⟨by omega, by omega⟩, k1 rfl _ _ (Same.refl _) (.int _)⟩
    rw [filter_true] at r1
    have ez : (List.range n.toNat).map (fun j => PyData.int (ixOf basis ((j : Nat) : Int))) = ((rgI n.toNat).map (ixOf basis)).map PyData.int := by
      unfold rgI
      rw [List.map_map, List.map_map]
      rfl
    rw [ez] at r1
    have ezs := r1.ofInts
    subst ezs
    refine ⟨D, _, rfl, SqL.of hy, fun q2 o hq2 ho => ?_⟩
    have s2 := same_upd (o := .frz o (.tup (((rgI n.toNat).map (ixOf basis)).map V.int))) hq2
    have tn : TI K (upd H1 q2 (.frz o (.tup (((rgI n.toNat).map (ixOf basis)).map V.int)))) q2 ((rgI n.toNat).map (ixOf basis)) := ⟨tn_new ho, by rw [List.length_map, rgI_length]; omega⟩
    have s02 := s1.trans s2
    generalize upd H1 q2 (.frz o (.tup (((rgI n.toNat).map (ixOf basis)).map V.int))) = H2 at *
    -- anew
    refine ⟨_, rfl, _, rfl, .ref b, q2, n, rows, (rgI n.toNat).map (ixOf basis), rfl, hv.same s02, .inr tn.1.1, fun r hr x hx => by rw [List.length_map, rgI_length]; have := hin r hr x hx; omega, fun av H3 s3 ra => ?_⟩
    rw [reb_names hB hin] at ra
    have s03 := s02.trans s3
    -- due
    refine ⟨_, rfl, av, n, _, rfl, ra, hL.2, by omega, fun p4 H4 s4 _ r4 => ?_⟩
    have s04 := s03.trans s4
    have ta4 := ta.same s04
    have tn4 := tn.same (s3.trans s4)
    refine ⟨_, rfl, a, rfl, ⟨_, ta4.1.1⟩, fun D5 hD5 => ?_⟩
    refine lcT (K := K) (xs := line.map V.int) (fun _ => true) (fun j => .int (ixOf basis (line.getD j 0))) hD5 ta4.1.1 (by rw [List.length_map]; exact ta.2) (fun _ _ _ => rfl) (fun j x H5 hj s5 Q1 Q2 k1 k2 => ?_) (fun zs H5 s5 hz5 r5 => ?_)
    · obtain ⟨z, hz4, rfl⟩ := lab_at hj
      have eg := getD_at hz4
      rw [eg] at k1
      have hm := hL.mem.mp (List.mem_of_getElem? hz4)
      have e := rg_base hB hm.1 hm.2
      rw [← e] at k1
      exact ⟨rfl, _, rfl, _, rfl, q2, _, _, _, rfl, rfl, (tn4.same s5).1.1, at_of (j := z.toNat) (by omega) (mapD (by rw [List.length_map, rgI_length]; omega)), k1 rfl _ _ (Same.refl _) (.int _)⟩
    rw [filter_true] at r5
    have ez5 : (List.range (line.map V.int).length).map (fun j => PyData.int (ixOf basis (line.getD j 0))) = (line.map (ixOf basis)).map PyData.int := by
      rw [List.length_map, List.map_map]
      exact map_range (fun x : Int => PyData.int (ixOf basis x)) 0 line
    rw [ez5] at r5
    have ezs := r5.ofInts
    subst ezs
    dsimp only [tNil]
    refine ⟨.ref p4, D5, _, line.map (ixOf basis), rfl, r4.same s5, ⟨SqL.of hz5, by rw [List.length_map]; exact ta.2⟩, fit_in hL2, fun dv H6 s6 rd => ?_⟩
    have rd : Rp K H6 dv (dRows (fitT n (dealt (ixOf basis) rows) (line.map (ixOf basis)))) := rd
    have s36 := s4.trans (s5.trans s6)
    have s06 := s03.trans s36
    have hv := hv.same s06
    have ht := ht.same s06
    have ta := ta.same s06
    have tb := tb.same s06
    have tn := tn.same (s3.trans s36)
    have ra := ra.same s36
    clear s36 s02 s03 s04 ta4 tn4
    -- rebased
    refine ⟨_, rfl, _, rfl, .ref b, .ref c, _, n, rows, rfl, hv, tb.rp, hin, out_ok (rebased_eq hB hin) fun z H7 s7 rz => ⟨_, rfl, z, av, _, _, rfl, rz, ra.same s7, noN_book _ _, deep_bookD _ _, fun bb H8 s8 e8 => ⟨_, rfl, ?_⟩⟩⟩
    have eb : bb = true := e8.mpr rfl
    subst eb
    have t8 := s7.trans s8
    refine iteF ⟨_, rfl, _, rfl, _, rfl, .ref b, t1, .ref c, _, _, n, rows, rfl, hv.same t8, ht.same t8, (tb.same t8).rp, h45, out_ok (rebS_eq hB hin hL) fun z H9 s9 rz => ⟨_, rfl, z, dv, _, _, rfl, rz, rd.same (t8.trans s9), noN_rows _, Nat.le_trans (deep_dRows _) (by decide), fun bb H10 s10 e10 => ⟨_, rfl, ?_⟩⟩⟩
    have eb : bb = true := e10.mpr rfl
    subst eb
    have t10 := t8.trans (s9.trans s10)
    -- back
    refine iteF ⟨_, rfl, _, rfl, av, .ref q2, _, n, _, rfl, ra.same t10, (tn.same t10).rp, hin2, out_ok (reb_back hB hr') fun z H11 s11 rz => ⟨_, rfl, z, .ref b, _, _, rfl, rz, hv.same (t10.trans s11), noN_book _ _, deep_bookD _ _, fun bb H12 s12 e12 => ⟨_, rfl, ?_⟩⟩⟩
    have eb : bb = true := e12.mpr rfl
    subst eb
    have t12 := t10.trans (s11.trans s12)
    refine iteF ⟨_, rfl, _, rfl, _, rfl, av, dv, .ref q2, _, _, n, _, rfl, ra.same t12, rd.same t12, (tn.same t12).rp, h45b, out_ok (reb_sback hB hr' hL) fun z H13 s13 rz => ⟨_, rfl, z, t1, _, _, rfl, rz, ht.same (t12.trans s13), noN_rows _, Nat.le_trans (deep_dRows _) (by decide), fun bb H14 s14 e14 => ⟨_, rfl, ?_⟩⟩⟩
    have eb : bb = true := e14.mpr rfl
    subst eb
    have t14 := t12.trans (s13.trans s14)
    -- by its own line
    refine iteF ⟨_, rfl, _, rfl, _, rfl, .ref b, t1, .ref a, _, _, n, rows, rfl, hv.same t14, ht.same t14, (ta.same t14).rp, h45, out_ok (reb_self hin hL) fun z H15 s15 rz => ⟨(by show 0 ≤ sizeLine; decide), fun q16 hq16 => ?_⟩⟩
    have s16 := same_upd (o := .tup []) hq16
    refine ⟨z, .ref q16, _, dRows [], rfl, rz.same s16, .tup (SqT.of upd_same) (by decide) .nil, noN_rows _, Nat.le_trans (deep_dRows _) (by decide), fun bb H17 s17 e17 => ⟨_, rfl, ?_⟩⟩
    have eb : bb = true := e17.mpr rfl
    subst eb
    have t17 := t14.trans (s15.trans (s16.trans s17))
    refine iteF ?_
    -- orders
    have sd := s06.trans t17
    have ta17 := ta.same t17
    have tn17 := tn.same t17
    refine ⟨_, rfl, b, _, 1, _, rfl, rfl, seqT sd hb, rfl, L, rfl, ⟨_, seqT sd hL0⟩, fun D4 hD4 => ?_⟩
    refine lcT (K := K) (xs := xs) (fun _ => true) (fun j => dTup ((line.filter fun x => decide (x ∈ rows.getD j [])).map (ixOf basis))) hD4 (seqT sd hL0) hz (fun _ _ _ => noL_dTup _) (fun j x H18 hj s18 Q1 Q2 k1 k2 => ?_) (fun ys4 H18 s18 hy4 r18 => ?_)
    · obtain ⟨ns, a2, hn2, rfl, t⟩ := hrr.row hj
      have t := t.same (sd.trans s18)
      have en : rows.getD j [] = ns := by rw [List.getD_eq_getElem?_getD, hn2]; rfl
      rw [en] at k1
      have ta18 := ta17.same s18
      have tn18 := tn17.same s18
      refine ⟨rfl, _, rfl, a, rfl, ⟨_, ta18.1.1⟩, fun D6 hD6 => ?_⟩
      refine lcT (K := K) (xs := line.map V.int) (fun j => decide (line.getD j 0 ∈ ns)) (fun j => .int (ixOf basis (line.getD j 0))) hD6 ta18.1.1 (by rw [List.length_map]; exact ta.2) (fun _ _ _ => rfl) (fun z v H20 hz6 s20 Q5 Q6 k5 k6 => ?_) (fun zs H20 s20 hz20 r20 => ?_)
      · obtain ⟨i, hi, rfl⟩ := lab_at hz6
        have eg := getD_at hi
        rw [eg] at k5 k6
        have hm := hL.mem.mp (List.mem_of_getElem? hi)
        have e := rg_base hB hm.1 hm.2
        rw [← e] at k5
        refine ⟨rfl, _, rfl, _, rfl, ?_⟩
        refine inL_use (.inr (t.same s20).1) ⟨_, rfl, ?_⟩
        cases cm : decide (i ∈ ns) with
        | false => exact iteF (k6 cm _ (Same.refl _))
        | true => exact iteT ⟨_, rfl, _, rfl, q2, _, _, _, rfl, rfl, (tn18.same s20).1.1, at_of (j := i.toNat) (by omega) (mapD (by rw [List.length_map, rgI_length]; omega)), k5 cm _ _ (Same.refl _) (.int _)⟩
      · have ez2 : ((List.range (line.map V.int).length).filter fun j => decide (line.getD j 0 ∈ ns)).map (fun j => PyData.int (ixOf basis (line.getD j 0))) = ((line.filter fun x => decide (x ∈ ns)).map (ixOf basis)).map PyData.int := by
          rw [List.length_map, List.map_map]
          exact filter_map_range (fun x : Int => decide (x ∈ ns)) (fun x => PyData.int (ixOf basis x)) 0 line
        rw [ez2] at r20
        have ezs := r20.ofInts
        subst ezs
        dsimp only [tNil]
        refine tupL_use (SqL.of hz20) fun q H21 s21 hq21 => k1 rfl _ _ (s20.trans s21) (TupI.rp ⟨hq21, ?_⟩)
        rw [List.length_map]
        exact Nat.le_trans (List.length_filter_le _ _) ta.2
    rw [filter_true] at r18
    have ez4 : (List.range xs.length).map (fun j => dTup ((line.filter fun x => decide (x ∈ rows.getD j [])).map (ixOf basis))) = (rows.map fun r => (line.filter fun x => decide (x ∈ r)).map (ixOf basis)).map dTup := by
      rw [lx, List.map_map]
      exact map_range (fun r : List Int => dTup ((line.filter fun x => decide (x ∈ r)).map (ixOf basis))) [] rows
    rw [ez4] at r18
    have ly4 : ys4.length = rows.length := by rw [r18.length, List.length_map, List.length_map]
    have t18 := t17.trans s18
    refine ⟨_, rfl, _, rfl, av, dv, _, n, _, rfl, ra.same t18, rd.same t18, ⟨h45b, fun r hr => Nat.le_trans (row_len45 n10 (hr2 r hr)) (by decide)⟩, out_ok (reb_orders hB (by omega) hr' hL) fun z H22 s22 rz => ?_⟩
    refine ⟨_, rfl, ?_⟩
    dsimp only [tNil]
    refine tupL_use (SqL.of (s22 _ _ hy4)) fun q H23 s23 hq23 => ?_
    refine ⟨z, .ref q, _, _, rfl, rz.same s23, .tup hq23 (by omega) (r18.same (s22.trans s23)), noN_rows _, Nat.le_trans (deep_dRows _) (by decide), fun bb H24 s24 e24 => ?_⟩
    have eb : bb = true := e24.mpr rfl
    subst eb
    exact k _ (s06.trans (t18.trans (s22.trans (s23.trans s24))))
end
end LK
namespace LK
open PySem PySem.Spec PyProof.Rows L2
def spCarT (K : PySem.W.Frag) : Sp := fun vs H Q _ => ∃ (v u t1 o : V) (n : Int) (rows other : List (List Int)) (line : List Int), vs = [v, u, t1, o] ∧ Rp K H v (bookD n rows) ∧ Rp K H u (dRowsL (tiesL n rows)) ∧ Rp K H t1 (dRows (fitT n rows line)) ∧ Rp K H o (bookD n other) ∧ WebOk n rows ∧ WebOk n other ∧ Ln n line ∧ ∀ H', Same H H' → Q (.bl true) H'
section
variable {P : Program} {w : World} {K : PySem.W.Frag} {mg : Str → Option Value} {base : Heap} {ad : Nat → Addr} {fd : Nat → FuncData}
theorem ok__law_carried_told (T : Txt K mg ad fd) : FnOk P w K mg base CX0 11 (ad 88) (fd 88) ["_law_web", "_law_ties_here", "_law_turned", "_law_other_here"] (spCarT K) := by
  refine T.F__law_carried_told.ok sc__law_carried_told (fun vs H Q E h => ?_) (fun cdv A outer s H vs Q E hr h => ?_)
  · obtain ⟨v, u, t1, o, n, rows, other, line, rfl, _⟩ := h
    rfl
  · obtain ⟨v, u, t1, o, n, rows, other, line, rfl, hv, hu, ht, ho, wo, wo2, hL, k⟩ := h
    refine ⟨_, (pss_cons (ps_set (i := 4) sc__law_carried_told.nd rfl (Or.inl rfl) (pe_call (ok__law_least_line T) (hr.mono (by decide)) rfl T.m__law_least_line T.F__law_least_line.kp (b__law_least_line T) .nil pass0 (pa_cons (pe_ix (ixT K) (pv 0) pe_int (fun _ _ => rfl)) (pa_cons (pv 1) (pa_cons (pv 2) pa_nil)))))
  (pss_cons (ps_set (i := 5) sc__law_carried_told.nd rfl (Or.inl rfl) (pe_call (ok__law_by_line T) (hr.mono (by decide)) rfl T.m__law_by_line T.F__law_by_line.kp (b__law_by_line T) .nil pass0 (pa_cons (pe_call (ok__law_ties T) (hr.mono (by decide)) rfl T.m__law_ties T.F__law_ties.kp (b__law_ties T) .nil pass0 (pa_cons (pv 3) pa_nil)) (pa_cons (pv 4) pa_nil))))
  (pss_cons (ps_if (PW.pt (pw_or (pt_not (pt_val (pe_call (ok__law_same T) (hr.mono (by decide)) rfl T.m__law_same T.F__law_same.kp (b__law_same T) .nil pass0 (pa_cons (pe_call (ok_carried T) (hr.mono (by decide)) rfl T.m_carried T.F_carried.kp (b_carried T) .nil passL (pa_cons (pv 0) (pa_cons (pv 2) (pa_cons (pv 3) pa_nil)))) (pa_cons (pv 5) pa_nil))))) (pw_or1 (pt_not (pt_val (pe_call (ok__law_same T) (hr.mono (by decide)) rfl T.m__law_same T.F__law_same.kp (b__law_same T) .nil pass0 (pa_cons (pe_call (ok_line_of T) (hr.mono (by decide)) rfl T.m_line_of T.F_line_of.kp (b_line_of T) .nil passL (pa_cons (pv 0) (pa_cons (pv 2) pa_nil))) (pa_cons (pv 4) pa_nil)))))))) (pss_one (ps_ret pe_bl))
  pss_nil)
  (pss_cons (ps_if (pt_not (pt_val (pe_call (ok__law_same T) (hr.mono (by decide)) rfl T.m__law_same T.F__law_same.kp (b__law_same T) .nil pass0 (pa_cons (pe_call (ok_sorting_of T) (hr.mono (by decide)) rfl T.m_sorting_of T.F_sorting_of.kp (b_sorting_of T) .nil passL (pa_cons (pv 3) (pa_cons (pe_call (ok_line_of T) (hr.mono (by decide)) rfl T.m_line_of T.F_line_of.kp (b_line_of T) .nil passL (pa_cons (pv 0) (pa_cons (pv 2) pa_nil))) pa_nil))) (pa_cons (pe_callKO (ok_carried T) (hr.mono (by decide)) rfl T.m_carried T.F_carried.kp (kb_carried_other_sorting_book T) passL (pk_cons (pv 3) (pk_cons (pv 2) (pk_cons (pv 0) pk_nil)))) pa_nil))))) (pss_one (ps_ret pe_bl))
  pss_nil)
  (pss_one (ps_ret (pe_call (ok__law_same T) (hr.mono (by decide)) rfl T.m__law_same T.F__law_same.kp (b__law_same T) .nil pass0 (pa_cons (pe_call (ok_carried T) (hr.mono (by decide)) rfl T.m_carried T.F_carried.kp (b_carried T) .nil passL (pa_cons (pv 0) (pa_cons (pv 2) (pa_cons (pe_tup (pa_cons (pe_ix (ixT K) (pv 0) pe_int (fun _ _ => rfl)) (pa_cons (pe_revT K (pe_ix (ixT K) (pv 0) pe_int (fun _ _ => rfl))) pa_nil))) pa_nil)))) (pa_cons (pv 2) pa_nil))))))))), ?_⟩
    have hr' := wo.2.2.2
    have hin : RowsIn n rows := rowsOk_in hr'
    have ho' := wo2.2.2.2
    have hin2 : RowsIn n other := rowsOk_in ho'
    have n10 := wo.2.1
    have n1 := wo.1
    have h45 : In45 n rows := ⟨hin, hL.2, by omega⟩
    have h45b : In45 n other := ⟨hin2, hL.2, by omega⟩
    have hLT := ln_lineT hin hL
    obtain ⟨b, L, xs, rfl, hb, hL0, hz, hrr⟩ := rp_book hv
    refine ⟨_, rfl, b, _, 0, _, rfl, rfl, hb, rfl, _, rfl, _, rfl, u, t1, n, tiesL n rows, fitT n rows line, rfl, hu, ht, tiesL_prs _ _, fit_prs _ _ _, Nat.le_trans (tiesL_len10 rows n10) (by decide), Nat.le_trans (tiesIn_len fit_tiesIn n10) (by decide), hL.2, by omega, fun f H1 s1 tf => ?_⟩
    rw [least_fit hin hL] at tf
    refine ⟨_, rfl, o, n, other, rfl, ho.same s1, hL.2, by omega, fun p2 H2 s2 _ r2 => ?_⟩
    refine ⟨_, rfl, .ref p2, f, _, lineT n rows (fitT n rows line), rfl, r2, tf.same s2, fit_in hLT, fun dv H3 s3 rd => ?_⟩
    have rd : Rp K H3 dv (dRows (fitT n other (lineT n rows (fitT n rows line)))) := rd
    have s03 := s1.trans (s2.trans s3)
    have tf := tf.same (s2.trans s3)
    have hv := hv.same s03
    have ht := ht.same s03
    have ho := ho.same s03
    refine ⟨_, rfl, _, rfl, _, rfl, .ref b, t1, o, _, _, n, rows, rfl, hv, ht, ho, h45, out_ok (carried_eq hin hL n1 ho') fun z H4 s4 rz => ⟨_, rfl, z, dv, _, _, rfl, rz, rd.same s4, noN_rows _, Nat.le_trans (deep_dRows _) (by decide), fun bb H5 s5 e5 => ⟨_, rfl, ?_⟩⟩⟩
    have eb : bb = true := e5.mpr rfl
    subst eb
    have t5 := s4.trans s5
    refine iteF ⟨_, rfl, _, rfl, .ref b, t1, _, n, rows, rfl, hv.same t5, ht.same t5, h45, out_ok (lineOf_fit hin hL) fun z H6 s6 rz => ⟨_, rfl, z, .ref f, _, _, rfl, rz, (tf.same (t5.trans s6)).rp, noN_dTup _, Nat.le_trans (deep_dTup _) (by decide), fun bb H7 s7 e7 => ⟨_, rfl, ?_⟩⟩⟩
    have eb : bb = true := e7.mpr rfl
    subst eb
    have t7 := t5.trans (s6.trans s7)
    refine iteF ⟨_, rfl, _, rfl, _, rfl, .ref b, t1, _, n, rows, rfl, hv.same t7, ht.same t7, h45, out_ok (lineOf_fit hin hL) fun lv H8 s8 rl => ?_⟩
    have t8 := t7.trans s8
    refine ⟨o, lv, _, n, other, rfl, ho.same t8, rl, h45b, out_ok (sortingOf_eq hLT) fun z H9 s9 rz => ?_⟩
    have t9 := t8.trans s9
    refine ⟨_, rfl, _, rfl, _, rfl, .ref b, t1, o, _, _, n, rows, rfl, hv.same t9, ht.same t9, ho.same t9, h45, out_ok (carried_eq hin hL n1 ho') fun z2 H10 s10 rz2 => ?_⟩
    refine ⟨z, z2, _, _, rfl, rz.same s10, rz2, noN_rows _, Nat.le_trans (deep_dRows _) (by decide), fun bb H11 s11 e11 => ⟨_, rfl, ?_⟩⟩
    have eb : bb = true := e11.mpr rfl
    subst eb
    have t11 := t9.trans (s10.trans s11)
    have sb := s03.trans t11
    refine iteF ⟨_, rfl, _, rfl, _, rfl, b, _, 0, _, rfl, rfl, seqT sb hb, rfl, _, rfl, b, _, 1, _, rfl, rfl, seqT sb hb, rfl, L, xs, rfl, seqT sb hL0, fun q12 hq12 => ⟨(by show 2 ≤ sizeLine; decide), fun q13 hq13 => ?_⟩⟩
    have s12 := same_upd (o := .tup xs.reverse) hq12
    have s13 := same_upd (o := .tup [V.int n, .ref q12]) hq13
    have rb : Rp K _ (.ref q13) (bookD n rows.reverse) := rp_bookNew (SqT.of upd_same) (by rw [List.length_reverse]; exact hz) (by rw [List.map_reverse]; exact (hrr.same (sb.trans s12)).reverse) hq13
    have t13 := t11.trans (s12.trans s13)
    refine ⟨.ref b, t1, .ref q13, _, _, n, rows, rfl, hv.same t13, ht.same t13, rb, h45, out_ok (carried_rev hin hL n1 hr') fun z H14 s14 rz => ?_⟩
    refine ⟨_, rfl, z, t1, _, _, rfl, rz, ht.same (t13.trans s14), noN_rows _, Nat.le_trans (deep_dRows _) (by decide), fun bb H15 s15 e15 => ?_⟩
    have eb : bb = true := e15.mpr rfl
    subst eb
    exact k _ (s03.trans (t13.trans (s14.trans s15)))
end
end LK
/-! isinstance of a caught error of an own class that has fields of its own -/
namespace LK
open PySem PySem.Spec PySem.Calls PyProof.Rows PySem.W
section
variable {prog : Program} {w : World} {A : Around} {E : Value → Shared → Prop} {s : Shared} {K : Frag} {x D : Addr} {ox : Obj} {od : Option Obj}
theorem findObj_dataO {C : Addr} {name : Str} {a g : Value} (hc : (clsIn K C).isSome = true) (ha : findIn K (.ref C) name = some (some a)) (hg : specialIn K a "__get__" = some (some g)) (ht : takesIn K a = some true) : findObj K C od name = some (.bind g a) := by
  obtain ⟨cd, hc⟩ := Option.isSome_iff_exists.mp hc
  unfold findObj
  rw [hc, Option.bind_some, ha, Option.bind_some]
  simp [hg, ht]
theorem kin_classO {Q : Option Value → Shared → Prop} (hga : findIn K (.ref D) "__getattribute__" = some (some (.builtin "BaseException.__getattribute__"))) (hgt : findIn K (.ref D) "__getattr__" = some none) (hsub : subIn K (.ref D) (.type "BaseException") = some true)
    (hdct : hasDictIn K D = true) (ha : findIn K (.ref D) "__class__" = some (some (.builtin "object.__class__")))
    (hn : specialIn K (.builtin "object.__class__") "__get__" = some (some (.builtin "getset_descriptor.__get__"))) (htk : takesIn K (.builtin "object.__class__") = some true) (hm : mroIn K D (.type "object") = some true)
    (X : K.In s.heap) (I : InstAt s.heap x ox D od) (h : Q (some (.ref D)) { s with toks := s.toks + 1 }) : wpAny (model prog w) A (getAttr? (.ref x) "__class__") Q E s := by
  have hf : findObj K D od "__class__" = some (.bind (.builtin "getset_descriptor.__get__") (.builtin "object.__class__")) := findObj_dataO (by obtain ⟨cd, hc, _⟩ := any_some hdct; rw [hc]; rfl) ha hn htk
  obtain ⟨hp, g, d, t, os⟩ := s
  have L0 := I.type (M := model prog w)
  have L1 := looks_findIn (M := model prog w) X hga
  have L2 := looks_findIn (M := model prog w) X hgt
  have L3 := looks_find (M := model prog w) X I hf
  have sub : Looks (model prog w) hp (isInstance (.ref x) (.type "BaseException")) true := L0.andThen (looks_subIn X hsub)
  have hx0 : (false && onTheHeap (Value.builtin "BaseException.__getattribute__")) = false := rfl
  have hx2 : (Value.builtin "BaseException.__getattribute__" == Value.builtin "object.__getattribute__") = false := by decide +kernel
  have hx1 : (onTheHeap (Value.ref D) && Value.builtin "BaseException.__getattribute__" == Value.builtin "object.__getattribute__") = false := by rw [hx2]; rfl
  unfold getAttr? getAttrBy? getAttrBy
  refine wpAny_bind (wpAny_mkText (wpAny_bind (wpAny_attempt (wpAny_holding (wpAny_bind (L0.at (wpAny_bind (L1.at ?_))))))))
  show wpAny _ _ (if (onTheHeap (Value.ref D) && Value.builtin "BaseException.__getattribute__" == Value.builtin "object.__getattribute__") = true then _ else _) _ _ _
  rw [hx1, if_neg Bool.false_ne_true]
  unfold getAttrByItsOwn hookBefore
  refine wpAny_bind ?_
  rw [if_pos (show onTheHeap (Value.ref D) = true from rfl)]
  refine L2.at ?_
  refine wpAny_bind (wpAny_attempt (wpAny_holding ?_))
  unfold callGetattribute
  rw [hx0, if_neg Bool.false_ne_true]
  unfold boundAndCalled
  rw [PySem.F.excAttr_ValueError.ga.bind (.ref x)]
  refine wpAny_bind (wpAny_pure ?_)
  show wpAny _ _ (call (.builtin "BaseException.__getattribute__") [.ref x, .str "__class__" t]) _ _ _
  refine wpAny_call (codeAny_call_builtin PySem.F.excAttr_ValueError.ga.plain PySem.F.entry_bexc_ga ?_)
  refine @check_slot (model prog w) _ _ ⟨hp, g, d, t + 1, os⟩ "BaseException.__getattribute__" "BaseException" "__getattribute__" (.ref x) [.str "__class__" t] [] _ (by decide +kernel) (by decide +kernel) sub (PySem.F.args_bexc_ga (.ref x) (.str "__class__" t)) ?_
  unfold Builtin.«object.__getattribute__»
  refine wpAny_bind (wpAny_of_eq (a := ((Value.ref x : Value), [Value.str "__class__" t])) (by first | rfl | (simp only [slotArgs]; rfl)) ?_)
  refine wpAny_bind (wpAny_pure (wpAny_bind (L0.at (wpAny_bind (L3.at ?_)))))
  show wpAny _ _ (holding [Value.builtin "object.__class__"] (call (.builtin "getset_descriptor.__get__") [.builtin "object.__class__", .ref x, .ref D]) >>= ret) _ _ _
  refine wpAny_bind (wpAny_holding (wpAny_call (class_get (s := ⟨hp, g, d, t + 1, os⟩) (ox := ox) (od := od) X I hm ?_)))
  refine wpAny_pure ?_
  show wpAny _ _ (handedOut (.ref D)) _ _ _
  rw [handedOut_of (v := .ref D) rfl]
  first
    | exact wpAny_pure (wpAny_pure h)
    | exact wpAny_pure h
    | exact wpAny_pure (wpAny_bind (wpAny_pure (wpAny_pure h)))
theorem kitx_excO (hga : findIn K (.ref D) "__getattribute__" = some (some (.builtin "BaseException.__getattribute__"))) (hgt : findIn K (.ref D) "__getattr__" = some none) (hsub : subIn K (.ref D) (.type "BaseException") = some true) (hdct : hasDictIn K D = true) (ha : findIn K (.ref D) "__class__" = some (some (.builtin "object.__class__")))
    (hn : specialIn K (.builtin "object.__class__") "__get__" = some (some (.builtin "getset_descriptor.__get__"))) (htk : takesIn K (.builtin "object.__class__") = some true) (hm : mroIn K D (.type "object") = some true) :
    KitX K (.ref x) (.ref D) (fun h => InstAt h x ox D od) where
  ty := fun _ _ _ I => I.type
  it := fun _ _ X _ => by
    obtain ⟨cdD, hcD, _⟩ := any_some hdct
    unfold clsIn at hcD
    split at hcD
    · rename_i c' d' cd' sl' ho
      intro A' Q' E' s' k q
      unfold isType loadHead
      exact wpAny_bind (wpAny_loadPart (k _ _ (X _ _ ho)) (wpAny_pure q))
    · cases hcD
  ne := (handS_kitx_exc (K := K) (x := x) (D := D) (ox := ox) hga hgt hsub hdct ha hn htk hm).ne
  ca := fun X I k => kin_classO hga hgt hsub hdct ha hn htk hm X I k
end
end LK
namespace LK
open PySem PySem.Spec PyProof.Rows L2
/-- isinstance(e, c), e the exception that the suite holds, with fields -/
def rIsO (K : PySem.W.Frag) (D a : Addr) (cls : Value) (d : Option Addr) : List V → Hp → VK → Prop := fun xs H Q => ∃ (c : V) (cv : Value) (b : Bool) (dx : Addr) (fs : List (Str × V)), cls = .ref D ∧ d = some dx ∧ H dx = some (.xd fs) ∧ xs = [.ref a, c] ∧ (∀ u, RelV c u → u = cv) ∧ PySem.W.kitOne K (.ref D) cv = some b ∧ Q (.bl b) H
theorem isO {X : Cx} (K : PySem.W.Frag) {a D : Addr} {oe : Obj} {cls : Value} {d : Option Addr} {pn : List (Addr × Obj)} (C : ExcC K D) (hz : Zc cls d oe) (hf : ∃ vs, oe.data = .fields vs) (hK : X.K = K := by rfl) : CallR (X.suite a ((a, oe) :: pn)) (.builtin "isinstance") (rIsO K D a cls d) := by
  subst hK
  intro pins s σ H xs us Q I r h
  obtain ⟨c, cv, b, dx, fs, rfl, rfl, hx, rfl, hcv, e, q⟩ := h
  cases r with
  | cons rx rr =>
    cases rr with
    | cons rt rr =>
      cases rr
      cases rx
      have ec := hcv _ rt
      subst ec
      obtain ⟨hget, _⟩ := I.pin (a, oe) (List.mem_append.mpr (.inl List.mem_cons_self))
      obtain ⟨vs, hv⟩ := hf
      obtain ⟨mA, ⟨od, es, ep, hod, hc⟩, _⟩ := I.hok dx _ hx
      have J : PySem.W.InstAt s.heap a oe D (some od) := by
        obtain ⟨oc, od', oda, osl⟩ := oe
        obtain ⟨h1, h2⟩ := hz
        dsimp only at h1 h2 hv
        subst h1 h2 hv
        exact ⟨hget, rfl, rfl, hod⟩
      exact PySem.W.kia_one (kitx_excO C.hg C.hk C.hs C.hd C.ha C.hn C.ht C.hm) I.kIn J e (fun z => nomatch z) fun tk => ⟨.bl b, H, I.kept (t' := tk) fun _ _ z => z, rfl, q⟩
end LK
namespace LK
open PySem PySem.Spec PyProof.Rows L2
/-- what is refused, and with what word -/
inductive AskOdd (n : Int) (rows : List (List Int)) (od : PyData) : Int → Str → Prop
  | a0 : isSorting n rows od = false → AskOdd n rows od 0 "sorting"
  | a1 : isSorting n rows od = false → AskOdd n rows od 1 "sorting"
  | a2 : isSorting n rows od = false → AskOdd n rows od 2 "sorting"
  | a3 : isSorting n rows od = false → AskOdd n rows od 3 "sorting"
  | a4 : isSorting n rows od = false → AskOdd n rows od 4 "sorting"
  | a5 : (isLot n od && decide (0 < (dInts od).length)) = false → AskOdd n rows od 5 "lot"
  | a6 : isLine n od = false → AskOdd n rows od 6 "line"
  | a7 : (isBook od && decide (bSize od = n)) = false → AskOdd n rows od 7 "other"
theorem out_err {K : PySem.W.Frag} {C : Addr} {Q : VK} {E : XK} {H : Hp} {g : Except (Str × Int) PyData} {w : Str} {a : Int} (e : g = .error (w, a)) (h : Rz C E H w a) : Out K C Q E H g := by
  rw [e]
  exact h
def spAsked (K : PySem.W.Frag) (C : Addr) : Sp := fun vs H Q E => ∃ (pick : Int) (v t1 o : V) (n : Int) (rows : List (List Int)) (line : List Int) (od : PyData) (word : Str), vs = [.int pick, v, t1, o] ∧ Rp K H v (bookD n rows) ∧ Rp K H t1 (dRows (fitT n rows line)) ∧ Rp K H o od ∧ WebOk n rows ∧ Ln n line ∧ AskOdd n rows od pick word ∧ Rz C E H word (-1)
def spRefusal (K : PySem.W.Frag) : Sp := fun vs H Q _ => ∃ (pick : Int) (v t1 o : V) (n : Int) (rows : List (List Int)) (line : List Int) (od : PyData) (word : Str), vs = [.int pick, v, t1, o] ∧ Rp K H v (bookD n rows) ∧ Rp K H t1 (dRows (fitT n rows line)) ∧ Rp K H o od ∧ WebOk n rows ∧ Ln n line ∧ AskOdd n rows od pick word ∧
  ∀ z H', Same H H' → Rp K H' z (.tuple [.str word, .int (-1), .bool true, .bool false]) → Q z H'
section
variable {P : Program} {w : World} {K : PySem.W.Frag} {mg : Str → Option Value} {base : Heap} {ad : Nat → Addr} {fd : Nat → FuncData}
theorem ok__law_asked (T : Txt K mg ad fd) : FnOk P w K mg base (L2.CX P w) 11 (ad 89) (fd 89) ["_law_pick", "_law_web", "_law_turned", "_law_odd"] (spAsked K (ad 18)) := by
  refine T.F__law_asked.okX sc__law_asked (fun vs H Q E h => ?_) (fun cdv A outer s H vs Q E hr h => ?_)
  · obtain ⟨pick, v, t1, o, n, rows, line, od, word, rfl, _⟩ := h
    rfl
  · obtain ⟨pick, v, t1, o, n, rows, line, od, word, rfl, hv, ht, ho, wo, hL, hk, k⟩ := h
    refine ⟨_, (pss_cons (ps_if (pt_cmpR op_eq (pv 0) pe_int (nomark _)) (pss_one (ps_ret (pe_call (ok_turned_over T) (hr.mono (by decide)) rfl T.m_turned_over T.F_turned_over.kp (b_turned_over T) .nil (passes_call (takes_of rfl rfl rfl rfl) fun _ _ _ _ h => h) (pa_cons (pv 1) (pa_cons (pv 3) pa_nil)))))
  pss_nil)
  (pss_cons (ps_if (pt_cmpR op_eq (pv 0) pe_int (nomark _)) (pss_one (ps_ret (pe_call (ok_restricted T) (hr.mono (by decide)) rfl T.m_restricted T.F_restricted.kp (b_restricted T) .nil (passes_call (takes_of rfl rfl rfl rfl) fun _ _ _ _ h => h) (pa_cons (pv 1) (pa_cons (pv 3) (pa_cons pe_non pa_nil))))))
  pss_nil)
  (pss_cons (ps_if (pt_cmpR op_eq (pv 0) pe_int (nomark _)) (pss_one (ps_ret (pe_call (ok_mirrored_sorting T) (hr.mono (by decide)) rfl T.m_mirrored_sorting T.F_mirrored_sorting.kp (b_mirrored_sorting T) .nil (passes_call (takes_of rfl rfl rfl rfl) fun _ _ _ _ h => h) (pa_cons (pv 1) (pa_cons (pv 3) pa_nil)))))
  pss_nil)
  (pss_cons (ps_if (pt_cmpR op_eq (pv 0) pe_int (nomark _)) (pss_one (ps_ret (pe_call (ok_rebased_sorting T) (hr.mono (by decide)) rfl T.m_rebased_sorting T.F_rebased_sorting.kp (b_rebased_sorting T) .nil (passes_call (takes_of rfl rfl rfl rfl) fun _ _ _ _ h => h) (pa_cons (pv 1) (pa_cons (pv 3) (pa_cons pe_non pa_nil))))))
  pss_nil)
  (pss_cons (ps_if (pt_cmpR op_eq (pv 0) pe_int (nomark _)) (pss_one (ps_ret (pe_call (ok_carried T) (hr.mono (by decide)) rfl T.m_carried T.F_carried.kp (b_carried T) .nil (passes_call (takes_of rfl rfl rfl rfl) fun _ _ _ _ h => h) (pa_cons (pv 1) (pa_cons (pv 3) (pa_cons pe_non pa_nil))))))
  pss_nil)
  (pss_cons (ps_if (pt_cmpR op_eq (pv 0) pe_int (nomark _)) (pss_one (ps_ret (pe_call (ok_restricted T) (hr.mono (by decide)) rfl T.m_restricted T.F_restricted.kp (b_restricted T) .nil (passes_call (takes_of rfl rfl rfl rfl) fun _ _ _ _ h => h) (pa_cons (pv 1) (pa_cons (pv 2) (pa_cons (pv 3) pa_nil))))))
  pss_nil)
  (pss_cons (ps_if (pt_cmpR op_eq (pv 0) pe_int (nomark _)) (pss_one (ps_ret (pe_call (ok_rebased_sorting T) (hr.mono (by decide)) rfl T.m_rebased_sorting T.F_rebased_sorting.kp (b_rebased_sorting T) .nil (passes_call (takes_of rfl rfl rfl rfl) fun _ _ _ _ h => h) (pa_cons (pv 1) (pa_cons (pv 2) (pa_cons (pv 3) pa_nil))))))
  pss_nil)
  (pss_one (ps_ret (pe_call (ok_carried T) (hr.mono (by decide)) rfl T.m_carried T.F_carried.kp (b_carried T) .nil (passes_call (takes_of rfl rfl rfl rfl) fun _ _ _ _ h => h) (pa_cons (pv 1) (pa_cons (pv 2) (pa_cons (pv 3) pa_nil))))))))))))), ?_⟩
    have hr' := wo.2.2.2
    have hin : RowsIn n rows := rowsOk_in hr'
    have h45 : In45 n rows := ⟨hin, hL.2, by have := wo.2.1; omega⟩
    have h10 : In10 n rows := ⟨hin, hL.2, wo.2.1⟩
    have hS := fit_sorting hin hL
    cases hk with
    | a0 h => exact ⟨_, rfl, rfl, _, rfl, iteT ⟨_, rfl, _, rfl, v, o, od, n, rows, rfl, hv, ho, h45, out_err (by unfold turnedOverX; rw [h]; rfl) k⟩⟩
    | a1 h =>
      exact ⟨_, rfl, rfl, _, rfl, iteF ⟨_, rfl, rfl, _, rfl, iteT ⟨_, rfl, _, rfl, v, o, .non, od, .none, n, rows, rfl, hv, ho, .non, (fun z => by cases z), h45, out_err (by unfold restrictedX; rw [h]; rfl) k⟩⟩⟩
    | a2 h =>
      exact ⟨_, rfl, rfl, _, rfl, iteF ⟨_, rfl, rfl, _, rfl, iteF ⟨_, rfl, rfl, _, rfl, iteT ⟨_, rfl, _, rfl, v, o, od, n, rows, rfl, hv, ho, h10, out_err (by unfold mirroredSX; rw [h]; rfl) k⟩⟩⟩⟩
    | a3 h =>
      exact ⟨_, rfl, rfl, _, rfl, iteF ⟨_, rfl, rfl, _, rfl, iteF ⟨_, rfl, rfl, _, rfl, iteF ⟨_, rfl, rfl, _, rfl, iteT ⟨_, rfl, _, rfl, v, o, .non, od, .none, n, rows, rfl, hv, ho, .non, h45, out_err (by unfold rebasedSX; rw [h]; rfl) k⟩⟩⟩⟩⟩
    | a4 h =>
      exact ⟨_, rfl, rfl, _, rfl, iteF ⟨_, rfl, rfl, _, rfl, iteF ⟨_, rfl, rfl, _, rfl, iteF ⟨_, rfl, rfl, _, rfl, iteF ⟨_, rfl, rfl, _, rfl, iteT ⟨_, rfl, _, rfl, v, o, .non, od, .none, n, rows, rfl, hv, ho, .non, h45, out_err (by unfold carriedX; rw [h]; rfl) k⟩⟩⟩⟩⟩⟩
    | a5 h =>
      exact ⟨_, rfl, rfl, _, rfl, iteF ⟨_, rfl, rfl, _, rfl, iteF ⟨_, rfl, rfl, _, rfl, iteF ⟨_, rfl, rfl, _, rfl, iteF ⟨_, rfl, rfl, _, rfl, iteF ⟨_, rfl, rfl, _, rfl, iteT ⟨_, rfl, _, rfl, _, rfl, v, t1, o, _, od, n, rows, rfl, hv, ht, ho, (fun z1 z2 => by rw [z1, decide_eq_true z2] at h; cases h), h45, out_err (by unfold restrictedX; rw [hS, h]; rfl) k⟩⟩⟩⟩⟩⟩⟩
    | a6 h =>
      exact ⟨_, rfl, rfl, _, rfl, iteF ⟨_, rfl, rfl, _, rfl, iteF ⟨_, rfl, rfl, _, rfl, iteF ⟨_, rfl, rfl, _, rfl, iteF ⟨_, rfl, rfl, _, rfl, iteF ⟨_, rfl, rfl, _, rfl, iteF ⟨_, rfl, rfl, _, rfl, iteT ⟨_, rfl, _, rfl, _, rfl, v, t1, o, _, od, n, rows, rfl, hv, ht, ho, h45, out_err (by unfold rebasedSX; rw [hS, h]; rfl) k⟩⟩⟩⟩⟩⟩⟩⟩
    | a7 h =>
      exact ⟨_, rfl, rfl, _, rfl, iteF ⟨_, rfl, rfl, _, rfl, iteF ⟨_, rfl, rfl, _, rfl, iteF ⟨_, rfl, rfl, _, rfl, iteF ⟨_, rfl, rfl, _, rfl, iteF ⟨_, rfl, rfl, _, rfl, iteF ⟨_, rfl, rfl, _, rfl, iteF ⟨_, rfl, _, rfl, _, rfl, v, t1, o, _, od, n, rows, rfl, hv, ht, ho, h45, out_err (by unfold carriedX; rw [hS, h]; rfl) k⟩⟩⟩⟩⟩⟩⟩⟩
theorem ok__law_refusal (T : Txt K mg ad fd) : FnOk P w K mg base CX0 12 (ad 90) (fd 90) ["_law_pick", "_law_web", "_law_turned", "_law_odd"] (spRefusal K) := by
  refine T.F__law_refusal.ok sc__law_refusal (fun vs H Q E h => ?_) (fun cdv A outer s H vs Q E hr h => ?_)
  · obtain ⟨pick, v, t1, o, n, rows, line, od, word, rfl, _⟩ := h
    rfl
  · obtain ⟨pick, v, t1, o, n, rows, line, od, word, rfl, hv, ht, ho, wo, hL, hk, k⟩ := h
    refine ⟨_, (pss_cons (ps_try_as (i := 4) (Wout := fun _ _ _ _ => False) rfl rfl sc__law_refusal.nd rfl rfl ⟨rfl, by decide, Or.inl T.m_NotUsable⟩ takes0
  (fun W pn xe tk _ => (pss_one (ps_expr (pe_callS (ok__law_asked T) (hr.mono (by decide)) rfl T.m__law_asked T.F__law_asked.kp (b__law_asked T) (fun σ => passAt tk σ) (pa_cons (pv 0) (pa_cons (pv 1) (pa_cons (pv 2) (pa_cons (pv 3) pa_nil))))))))
  (fun a oe cls d pn hz hf => (pss_one (ps_ret (pe_tup (pa_cons (pe_xf T.x_NotUsable T.n_NotUsable_word hz hf (pv 4)) (pa_cons (pe_xf T.x_NotUsable T.n_NotUsable_at hz hf (pv 4)) (pa_cons (pe_callB (isO K T.xc_NotUsable hz hf) (by rfl) T.g_isinstance (by decide +kernel) (pa_cons (pv 4) (pa_cons (pe_glob (v := .ref (ad 17)) (by rfl) T.m_BookError rfl) pa_nil))) (pa_cons (pe_callB (isO K T.xc_NotUsable hz hf) (by rfl) T.g_isinstance (by decide +kernel) (pa_cons (pv 4) (pa_cons (pe_glob (v := .ref (ad 19)) (by rfl) T.m_InRound rfl) pa_nil))) pa_nil)))))))))
  (pss_one (ps_ret (pe_tup (pa_cons pe_str (pa_cons pe_int pa_nil)))))), ?_⟩
    refine ⟨_, rfl, _, rfl, _, rfl, _, rfl, pick, v, t1, o, n, rows, line, od, word, rfl, hv, ht, ho, wo, hL, hk, fun d H' s hd => ⟨true, T.e_NotUsable, fun _ a ha => ?_, fun q => Bool.noConfusion q⟩⟩
    refine ⟨_, rfl, rfl, rfl, d, _, _, rfl, hd, rfl, _, rfl, rfl, rfl, d, _, _, rfl, hd, rfl, ?_⟩
    refine ⟨_, rfl, .ref (ad 17), .ref (ad 17), true, d, _, rfl, rfl, hd, rfl, (fun u r => r), T.q_NotUsable_BookError, ?_⟩
    refine ⟨_, rfl, .ref (ad 19), .ref (ad 19), false, d, _, rfl, rfl, hd, rfl, (fun u r => r), T.q_NotUsable_InRound, (by show 4 ≤ sizeLine; decide), fun t htt => ?_⟩
    exact k _ _ (s.trans (same_upd htt)) (.tup (SqT.of upd_same) (by show 4 ≤ 1000; decide) (.cons (.str _) (.cons (.int _) (.two (.bl _) (.bl _)))))
end
end LK
/-! lists of data that are appended to; what slices and comparisons lay -/
namespace LK
open PySem PySem.Spec PyProof.Rows L2
theorem cutDG {xs : List V} {k : Nat} : cutV xs (some (k : Int)) none = xs.drop k := by
  by_cases c : k ≤ xs.length
  · rw [cut_drop (by omega) (by omega)]
    rfl
  · have h : HT.sIx xs.length 0 (some (k : Int)) = xs.length := by
      have := HT.clip_eq (k : Int) xs.length 0
      rw [if_neg (by omega)] at this
      omega
    unfold cutV
    rw [h, List.drop_eq_nil_of_le (Nat.le_refl _), List.drop_eq_nil_of_le (by omega), List.take_nil]
theorem cutTG {xs : List V} {k : Nat} : cutV xs none (some (k : Int)) = xs.take k := by
  by_cases c : k ≤ xs.length
  · rw [cut_take (by omega) (by omega)]
    rfl
  · have h : HT.sIx xs.length xs.length (some (k : Int)) = xs.length := by
      have := HT.clip_eq (k : Int) xs.length xs.length
      rw [if_neg (by omega)] at this
      omega
    have h2 : HT.sIx xs.length 0 none = 0 := rfl
    unfold cutV
    rw [h, h2, List.drop_zero, Nat.sub_zero, List.take_of_length_le (Nat.le_refl _), List.take_of_length_le (by omega)]
structure GrowD (K : PySem.W.Frag) (S p D : Addr) (H H' : Hp) (xs : List V) (ds : List PyData) : Prop where
  mv : Mv S p H H'
  at_ : H' D = some (.lst xs)
  rp : RpAll K (hide D (hide S H')) xs ds
  len : xs.length ≤ 500
variable {K : PySem.W.Frag} {S p D : Addr} {H H1 H2 : Hp} {xs : List V} {ds : List PyData}
theorem GrowD.mvs (g : GrowD K S p D H H1 xs ds) (hD : H D = none) (st : StOk H S p) (m : Mv S p H1 H2) : GrowD K S p D H H2 xs ds := by
  have DS := free_ne st hD
  exact ⟨g.mv.trans m, m.get DS g.at_, g.rp.same (hide_mono m.same), g.len⟩
theorem GrowD.ext (g : GrowD K S p D H H1 xs ds) (hD : H D = none) (st : StOk H S p) {ys : List V} {es : List PyData} (r : RpAll K (hide S H1) ys es) (n : noLs es = true) (hx : xs.length + ys.length ≤ 500) : GrowD K S p D H (upd H1 D (.lst (xs ++ ys))) (xs ++ ys) (ds ++ es) := by
  have DS := free_ne st hD
  refine ⟨g.mv.put st hD, upd_same, ?_, by rw [List.length_append]; exact hx⟩
  rw [hide2_self]
  exact g.rp.app (rpAll_hideL (zs := xs) (by rw [hide_ne DS]; exact g.at_) n r)
theorem GrowD.push (g : GrowD K S p D H H1 xs ds) (hD : H D = none) (st : StOk H S p) {y : V} {d : PyData} (r : Rp K (hide S H1) y d) (n : noL d = true) (hx : xs.length < 500) : GrowD K S p D H (upd H1 D (.lst (xs ++ [y]))) (xs ++ [y]) (ds ++ [d]) :=
  g.ext hD st (.one r) (by unfold noLs; rw [n]; rfl) hx
theorem GrowD.done (g : GrowD K S p D H H1 xs ds) (hD : H D = none) (st : StOk H S p) : Rp K (hide S H1) (.ref D) (.list ds) :=
  .lst (SqL.of (by rw [hide_ne (free_ne st hD)]; exact g.at_)) (by have := g.len; omega) (g.rp.same (hide_same _ _))
section
variable {σ : L2.St} {t ta tb : TE} {tt : TA} {H0 : Hp}
theorem y_useG {Q : VK} (y : YldA K S p H σ tt ds) (st : StOk H S p) (hz : ds.length ≤ 400) (k : ∀ A xs H', H A = none → GrowD K S p A H H' xs ds → xs.length = ds.length → Q (.ref A) H') : tLst tt σ H Q :=
  y H _ (Mv.refl st) fun vs H' m r => by
    have hl := r.length
    refine ⟨le_line (by omega), fun q hq => ?_⟩
    refine k q vs _ (m.free hq) ⟨m.then (same_upd hq), upd_same, ?_, by omega⟩ hl
    rw [hide2_self]
    refine r.same fun b u e => ?_
    have : b ≠ q := fun z => by
      rw [z] at e
      have := hide_get e
      rw [hq] at this
      cases this
    rw [hide_ne this]
    exact e
theorem y_lstOf (y : Yld K S p H0 σ t (.tuple ds)) : Yld K S p H0 σ (tCB (rLstOf K) (tCons t tNil)) (.list ds) := fun H Q mv k =>
  y H _ mv fun v H' m' r => by
    obtain ⟨a1, xs, rfl, ha, la, ra⟩ := r.tupA
    refine ⟨a1, xs, rfl, .inr (seqT (hide_same _ _) ha), fun q hq => ?_⟩
    exact k _ _ (m'.then (same_upd hq)) (rp_lstNew (free_ne m'.ok hq) ra hq la)
theorem y_sl {tl th : TO} {lo hi : Option Int} (y : Yld K S p H0 σ t (.tuple ds)) (hl : ∀ H R, R lo H → tl σ H R) (hh : ∀ H R, R hi H → th σ H R) {es : List PyData} (hc : ∀ (H : Hp) (xs : List V), RpAll K H xs ds → RpAll K H (cutV xs lo hi) es) : Yld K S p H0 σ (tSl (rSlA K) t tl th) (.tuple es) := fun H Q mv k =>
  y H _ mv fun v H' m' r => hl _ _ (hh _ _ (by
    obtain ⟨a1, xs, rfl, ha, la, ra⟩ := r.tupA
    refine slA_use (seqT (hide_same _ _) ha) fun q H3 s3 hq => ?_
    have m3 := m'.then s3
    obtain ⟨zs3, hS3⟩ := m3.ok.atS
    have := cutV_length xs lo hi
    exact k _ _ m3 (.tup (seqT_hide hS3 hq) (by omega) ((hc _ _ ra).same (hide_mono s3)))))
theorem y_take {k : Nat} (y : Yld K S p H0 σ t (.tuple ds)) : Yld K S p H0 σ (tSl (rSlA K) t tNoPart (tPart (tC (.int (k : Int))))) (.tuple (ds.take k)) :=
  y_sl (lo := none) (hi := some (k : Int)) y (fun _ _ h => h) (fun _ _ h => ⟨_, rfl, h⟩) fun H xs r => by rw [cutTG]; exact rpTake k r
theorem y_drop {k : Nat} (y : Yld K S p H0 σ t (.tuple ds)) : Yld K S p H0 σ (tSl (rSlA K) t (tPart (tC (.int (k : Int)))) tNoPart) (.tuple (ds.drop k)) :=
  y_sl (lo := some (k : Int)) (hi := none) y (fun _ _ h => ⟨_, rfl, h⟩) (fun _ _ h => h) fun H xs r => by rw [cutDG]; exact rpDrop k r
theorem y_eq {i j : Int} (ya : Yld K S p H0 σ ta (.int i)) (yb : Yld K S p H0 σ tb (.int j)) : Yld K S p H0 σ (tOp rEq ta tb) (.bool (decide (V.int i = V.int j))) := fun H Q m k =>
  ya H _ m fun v H' m' r => by
    cases r
    refine yb H' _ (m.trans m') fun v2 H2 m2 r2 => ?_
    cases r2
    exact ⟨rfl, k _ _ (m'.trans m2) (.bl _)⟩
theorem y_intB {b : Bool} (y : Yld K S p H0 σ t (.bool b)) : Yld K S p H0 σ (tCB (fun xs H Q => (∃ i, xs = [.int i] ∧ Q (.int i) H) ∨ ∃ k, xs = [.bl k] ∧ Q (.int (if k then 1 else 0)) H) (tCons t tNil)) (.int (if b then 1 else 0)) := fun H Q m k =>
  y H _ m fun v H' m' r => by
    cases r
    exact .inr ⟨b, rfl, k _ _ m' (.int _)⟩
theorem y_cast {d e : PyData} (y : Yld K S p H0 σ t d) (h : d = e) : Yld K S p H0 σ t e := h ▸ y
theorem y_useV {Q : VK} {d : PyData} (y : Yld K S p H σ t d) (st : StOk H S p) (k : ∀ v H', Mv S p H H' → Rp K (hide S H') v d → Q v H') : t σ H Q := y H Q (Mv.refl st) k
end
end LK
namespace LK
open PySem PySem.Spec PyProof.Rows L2
/-! the odd values of the law -/
variable {n : Int} {rows T : List (List Int)} {line lot : List Int}
theorem not_ties {d : PyData} (h : isTies n rows d = false) : isSorting n rows d = false := by
  unfold isSorting
  rw [h]
  rfl
theorem rising_lt : ∀ {l : List Int}, rising l = true → l.Pairwise (· < ·)
  | [], _ => .nil
  | [_], _ => List.pairwise_singleton _ _
  | a :: b :: l, h => by
    unfold rising at h
    rw [Bool.and_eq_true, decide_eq_true_eq] at h
    have ih := rising_lt (l := b :: l) h.2
    refine List.pairwise_cons.mpr ⟨fun c hc => ?_, ih⟩
    rcases List.mem_cons.mp hc with rfl | hc
    · exact h.1
    · have := (List.pairwise_cons.mp ih).1 c hc
      omega
def sortD (n : Int) (T : List (List Int)) : List PyData := [.list (T.map dTup), .tuple (T.map dTup ++ [.tuple [.int 0, .int 0]]), .none, .str "", .tuple [.tuple [.int (n - 1), .int n]], .bool true, .list [.tuple []], .int 0]
theorem sortD_odd : ∀ d ∈ sortD n T, isSorting n rows d = false := by
  intro d hd
  unfold sortD at hd
  simp only [List.mem_cons, List.not_mem_nil, or_false] at hd
  rcases hd with rfl | rfl | rfl | rfl | rfl | rfl | rfl | rfl
  · exact not_ties rfl
  · refine not_ties ?_
    have h1 : isTie n rows (.tuple [.int 0, .int 0]) = false := by
      have h2 : isLot n (.tuple [.int 0, .int 0]) = false := by
        show (areBelow n (.tuple [.int 0, .int 0]) && false) = false
        rw [Bool.and_false]
      unfold isTie
      rw [h2]
      rfl
    show ((T.map dTup ++ [PyData.tuple [.int 0, .int 0]]).all (isTie n rows) && _) = false
    rw [List.all_append, List.all_cons, h1, Bool.false_and, Bool.and_false, Bool.false_and]
  · exact not_ties rfl
  · exact not_ties rfl
  · refine not_ties ?_
    have h1 : isTie n rows (.tuple [.int (n - 1), .int n]) = false := by
      have h2 : areBelow n (.tuple [.int (n - 1), .int n]) = false := by
        show (isBelow n (.int (n - 1)) && (isBelow n (.int n) && true)) = false
        have : isBelow n (.int n) = false := by simp [isBelow]
        rw [this]
        simp
      unfold isTie isLot
      rw [h2]
      rfl
    show ((isTie n rows (.tuple [.int (n - 1), .int n]) && true) && _) = false
    rw [h1]
    rfl
  · exact not_ties rfl
  · exact not_ties rfl
  · exact not_ties rfl
def NotLot (n : Int) (d : PyData) : Prop := (isLot n d && decide (0 < (dInts d).length)) = false
theorem not_lot {d : PyData} (h : isLot n d = false) : NotLot n d := by
  unfold NotLot
  rw [h]
  rfl
theorem not_lotR {l : List Int} (h : ¬ l.Pairwise (· < ·)) : NotLot n (dTup l) := by
  refine not_lot ?_
  unfold isLot
  rw [dInts_tup]
  cases e : rising l with
  | false => rw [Bool.and_false]
  | true => exact absurd (rising_lt e) h
theorem below_bool (n : Int) (b : Bool) (ds : List PyData) : areBelow n (.tuple (.bool b :: ds)) = false := rfl
def lotD (n : Int) (lot : List Int) (b : Bool) : List PyData := [.tuple [], .list (lot.map .int), .tuple (lot.map .int ++ (lot.map .int).take 1), .tuple [.int n], .tuple [.int (0 - 1)], .none, .tuple ([.bool b] ++ (lot.map .int).drop 1), .str "0", .int 0, .tuple ((lot.map .int).take 1 ++ lot.map .int)]
theorem lotD_odd {b : Bool} (h : LotOk n lot) : ∀ d ∈ lotD n lot b, NotLot n d := by
  obtain ⟨x, l, rfl⟩ : ∃ x l, lot = x :: l := by
    cases lot with
    | nil => exact absurd rfl h.1
    | cons x l => exact ⟨x, l, rfl⟩
  intro d hd
  unfold lotD at hd
  simp only [List.mem_cons, List.not_mem_nil, or_false] at hd
  rcases hd with rfl | rfl | rfl | rfl | rfl | rfl | rfl | rfl | rfl | rfl
  · show (isLot n (.tuple []) && false) = false
    rw [Bool.and_false]
  · exact not_lot rfl
  · have e : PyData.tuple ((x :: l).map PyData.int ++ ((x :: l).map PyData.int).take 1) = dTup ((x :: l) ++ [x]) := by
      show _ = PyData.tuple (((x :: l) ++ [x]).map PyData.int)
      rw [List.map_append]
      rfl
    rw [e]
    refine not_lotR fun hp => ?_
    have := (List.pairwise_append.mp hp).2.2 x (by simp) x (by simp)
    omega
  · refine not_lot ?_
    have : areBelow n (.tuple [.int n]) = false := by
      show (isBelow n (.int n) && true) = false
      simp [isBelow]
    unfold isLot
    rw [this]
    rfl
  · refine not_lot ?_
    have : areBelow n (.tuple [.int (0 - 1)]) = false := by
      show (isBelow n (.int (0 - 1)) && true) = false
      simp [isBelow]
    unfold isLot
    rw [this]
    rfl
  · exact not_lot rfl
  · refine not_lot ?_
    unfold isLot
    rw [show areBelow n (.tuple ([.bool b] ++ ((x :: l).map PyData.int).drop 1)) = false from below_bool _ _ _]
    rfl
  · exact not_lot rfl
  · exact not_lot rfl
  · have e : PyData.tuple (((x :: l).map PyData.int).take 1 ++ (x :: l).map PyData.int) = dTup ([x] ++ (x :: l)) := rfl
    rw [e]
    refine not_lotR fun hp => ?_
    have := (List.pairwise_append.mp hp).2.2 x (by simp) x (by simp)
    omega
theorem not_line {d : PyData} (h : areUnlike n d = false ∨ ((dInts d).length : Int) ≠ n) : isLine n d = false := by
  unfold isLine
  rcases h with h | h
  · rw [h]
    rfl
  · rw [decide_eq_false h, Bool.and_false]
def lineDD (n : Int) (line : List Int) (b : Bool) : List PyData := [.tuple ((line.map .int).drop 1), .tuple (line.map .int ++ [.int n]), .list (line.map .int), .tuple ([.bool b] ++ (line.map .int).drop 1), .none, .tuple []]
theorem lineD_odd {b : Bool} (hL : Ln n line) (h1 : 1 ≤ n) : ∀ d ∈ lineDD n line b, isLine n d = false := by
  have hl := hL.len
  intro d hd
  unfold lineDD at hd
  simp only [List.mem_cons, List.not_mem_nil, or_false] at hd
  rcases hd with rfl | rfl | rfl | rfl | rfl | rfl
  · have e : PyData.tuple ((line.map PyData.int).drop 1) = dTup (line.drop 1) := by
      show _ = PyData.tuple ((line.drop 1).map PyData.int)
      rw [List.map_drop]
    rw [e]
    refine not_line (.inr ?_)
    rw [dInts_tup, List.length_drop]
    omega
  · have e : PyData.tuple (line.map PyData.int ++ [.int n]) = dTup (line ++ [n]) := by
      show _ = PyData.tuple ((line ++ [n]).map PyData.int)
      rw [List.map_append]
      rfl
    rw [e]
    refine not_line (.inr ?_)
    rw [dInts_tup, List.length_append, List.length_singleton]
    omega
  · exact not_line (.inl rfl)
  · refine not_line (.inl ?_)
    unfold areUnlike
    rw [show areBelow n (.tuple ([.bool b] ++ (line.map PyData.int).drop 1)) = false from below_bool _ _ _]
    rfl
  · exact not_line (.inl rfl)
  · refine not_line (.inr ?_)
    show ((0 : Nat) : Int) ≠ n
    omega
theorem line_twice (hL : Ln n line) (h1 : 1 ≤ n) : isLine n (.tuple (((line.map PyData.int).take 1 ++ (line.map PyData.int).take 1) ++ (line.map PyData.int).drop 2)) = false := by
  obtain ⟨x, l, rfl⟩ : ∃ x l, line = x :: l := by
    cases line with
    | nil =>
      have := hL.len
      simp at this
      omega
    | cons x l => exact ⟨x, l, rfl⟩
  have e : PyData.tuple ((((x :: l).map PyData.int).take 1 ++ ((x :: l).map PyData.int).take 1) ++ ((x :: l).map PyData.int).drop 2) = dTup ([x, x] ++ (x :: l).drop 2) := by
    show _ = PyData.tuple (([x, x] ++ (x :: l).drop 2).map PyData.int)
    rw [List.map_append, List.map_drop]
    rfl
  rw [e]
  refine not_line (.inl ?_)
  unfold areUnlike
  rw [dInts_tup, decide_eq_false (fun z => by simp at z), Bool.and_false]
def NotOther (n : Int) (d : PyData) : Prop := (isBook d && decide (bSize d = n)) = false
theorem not_book {d : PyData} (h : isBook d = false) : NotOther n d := by
  unfold NotOther
  rw [h]
  rfl
theorem not_size {d : PyData} (h : bSize d ≠ n) : NotOther n d := by
  unfold NotOther
  rw [decide_eq_false h, Bool.and_false]
def bookDD (n : Int) (rows : List (List Int)) : List PyData := [.tuple [.int n, .list (rows.map dTup)], .none, .tuple [.bool true, .tuple []], .tuple ([.int n, .tuple (rows.map dTup)] ++ [.tuple []]), .list [.int n, .tuple (rows.map dTup)], .tuple [.int n, .tuple (rows.map dTup ++ [.tuple [.int 0]])], .int 0]
theorem bookD_odd : ∀ d ∈ bookDD n rows, NotOther n d := by
  intro d hd
  unfold bookDD at hd
  simp only [List.mem_cons, List.not_mem_nil, or_false] at hd
  rcases hd with rfl | rfl | rfl | rfl | rfl | rfl | rfl
  · exact not_book rfl
  · exact not_book rfl
  · exact not_book rfl
  · exact not_book rfl
  · exact not_book rfl
  · refine not_book ?_
    show (decide (1 ≤ n) && (rows.map dTup ++ [PyData.tuple [.int 0]]).all (isListed n)) = false
    have h1 : isListed n (.tuple [.int 0]) = false := by
      show (isLot n (.tuple [.int 0]) && false) = false
      rw [Bool.and_false]
    rw [List.all_append, List.all_cons, h1, Bool.false_and, Bool.and_false, Bool.and_false]
  · exact not_book rfl
end LK
namespace LK
open PySem PySem.Spec PyProof.Rows L2
theorem hu64 {A : Around} {k : Nat} (hr : Room k A) : A.units + 64 < cLine := hr.units
theorem eqD {X : Cx} (K : PySem.W.Frag) (hu : X.A.units + 64 < cLine) (hK : X.K = K := by rfl) : OpR X (compareOp .Eq) (rEqD K) := hK ▸ op_eqD hu
theorem eqv_row (a b : List Int) : PyData.eqv (dTup a) (dTup b) = decide (a = b) := eqv_ints a b
def kindN (i : Nat) : Nat := if i < 5 then 0 else i - 4
def wordN (k : Nat) : Str := if k = 0 then "sorting" else if k = 1 then "lot" else if k = 2 then "line" else "other"
theorem kind_at : ∀ i : Nat, i < 8 → [PyData.int 0, .int 0, .int 0, .int 0, .int 0, .int 1, .int 2, .int 3][i]? = some (.int ((kindN i : Nat) : Int)) := by
  intro i hi
  match i, hi with
  | 0, _ => rfl
  | 1, _ => rfl
  | 2, _ => rfl
  | 3, _ => rfl
  | 4, _ => rfl
  | 5, _ => rfl
  | 6, _ => rfl
  | 7, _ => rfl
theorem word_at : ∀ k : Nat, k < 4 → [PyData.str "sorting", .str "lot", .str "line", .str "other"][k]? = some (.str (wordN k)) := by
  intro i hi
  match i, hi with
  | 0, _ => rfl
  | 1, _ => rfl
  | 2, _ => rfl
  | 3, _ => rfl
theorem kindN_lt {i : Nat} (h : i < 8) : kindN i < 4 := by
  unfold kindN
  split <;> omega
theorem pick_odd {n : Int} {rows : List (List Int)} {dA dB dC dE : List PyData} (hA : ∀ d ∈ dA, isSorting n rows d = false) (hB : ∀ d ∈ dB, NotLot n d) (hC : ∀ d ∈ dC, isLine n d = false) (hE : ∀ d ∈ dE, NotOther n d) :
    ∀ i : Nat, i < 8 → ∃ ds, [PyData.list dA, .list dB, .list dC, .list dE][kindN i]? = some (.list ds) ∧ (ds = dA ∨ ds = dB ∨ ds = dC ∨ ds = dE) ∧ ∀ d ∈ ds, AskOdd n rows d ((i : Nat) : Int) (wordN (kindN i)) := by
  intro i hi
  match i, hi with
  | 0, _ => exact ⟨dA, rfl, .inl rfl, fun d hd => .a0 (hA d hd)⟩
  | 1, _ => exact ⟨dA, rfl, .inl rfl, fun d hd => .a1 (hA d hd)⟩
  | 2, _ => exact ⟨dA, rfl, .inl rfl, fun d hd => .a2 (hA d hd)⟩
  | 3, _ => exact ⟨dA, rfl, .inl rfl, fun d hd => .a3 (hA d hd)⟩
  | 4, _ => exact ⟨dA, rfl, .inl rfl, fun d hd => .a4 (hA d hd)⟩
  | 5, _ => exact ⟨dB, rfl, .inr (.inl rfl), fun d hd => .a5 (hB d hd)⟩
  | 6, _ => exact ⟨dC, rfl, .inr (.inr (.inl rfl)), fun d hd => .a6 (hC d hd)⟩
  | 7, _ => exact ⟨dE, rfl, .inr (.inr (.inr rfl)), fun d hd => .a7 (hE d hd)⟩
theorem noL_dRows (T : List (List Int)) : noL (dRows T) = true := noLs_rows T
theorem noL_ints {ds : List PyData} (h : ∀ d ∈ ds, ∃ i : Int, d = .int i) : noL (.tuple ds) = true := by
  show noLs ds = true
  refine all_noL fun d hd => ?_
  obtain ⟨i, rfl⟩ := h d hd
  rfl
theorem noL_twice (line : List Int) : noL (.tuple (((line.map PyData.int).take 1 ++ (line.map PyData.int).take 1) ++ (line.map PyData.int).drop 2)) = true := noL_ints fun d hd => by
  have h : d ∈ line.map PyData.int := by
    rcases List.mem_append.mp hd with z | z
    · rcases List.mem_append.mp z with z | z <;> exact List.mem_of_mem_take z
    · exact List.mem_of_mem_drop z
  obtain ⟨i, _, rfl⟩ := List.mem_map.mp h
  exact ⟨i, rfl⟩
theorem other_one (n : Int) (h1 : 1 ≤ n) : ∃ j : Nat, (if decide (V.int n = V.int 1) = true then (1 : Int) else 0) = (j : Int) ∧ ∃ d, [PyData.tuple [.int 1, .tuple []], .tuple [.int 2, .tuple [.tuple [.int 0, .int 1]]]][j]? = some d ∧ NotOther n d ∧ noL d = true := by
  by_cases c : n = 1
  · refine ⟨1, ?_, _, rfl, not_size ?_, rfl⟩
    · rw [c]
      rfl
    · show (2 : Int) ≠ n
      omega
  · refine ⟨0, ?_, _, rfl, not_size ?_, rfl⟩
    · rw [decide_eq_false (fun z => c (by injection z))]
      rfl
    · show (1 : Int) ≠ n
      omega
section
variable {K : PySem.W.Frag} {S p b : Addr} {H0 : Hp} {σ : L2.St} {n : Int} {ds : List PyData}
theorem y_web1 (h1 : σ[1]? = some (some (.ref b))) (hv : Rp K (hide S H0) (.ref b) (.tuple [.int n, .tuple ds])) : Yld K S p H0 σ (tOp (rIxT K) (tVar 1) (tC (.int 1))) (.tuple ds) := y_ixT (ds := [.int n, .tuple ds]) (j := 1) (y_var h1 hv) y_int rfl
theorem y_b5 (h1 : σ[1]? = some (some (.ref b))) (hv : Rp K (hide S H0) (.ref b) (.tuple [.int n, .tuple ds])) : Yld K S p H0 σ (tOp (rCatA K) (tVar 1) (tTup (tCons (tTup tNil) tNil))) (.tuple ([.int n, .tuple ds] ++ [.tuple []])) :=
  y_catT (y_var h1 hv) (y_tup (ya_cons (y_tup ya_nil) ya_nil)) (by show 2 + 1 ≤ 1000; decide)
theorem y_b7 (h1 : σ[1]? = some (some (.ref b))) (h6 : σ[6]? = some (some (.int n))) (hl : ds.length ≤ 900) (hv : Rp K (hide S H0) (.ref b) (.tuple [.int n, .tuple ds])) : Yld K S p H0 σ (tTup (tCons (tVar 6) (tCons (tOp (rCatA K) (tOp (rIxT K) (tVar 1) (tC (.int 1))) (tTup (tCons (tTup (tCons (tC (.int 0)) tNil)) tNil))) tNil))) (.tuple [.int n, .tuple (ds ++ [.tuple [.int 0]])]) := by
  have a := y_catT (p := p) (y_web1 h1 hv) (y_tup (ya_cons (y_tup (ya_cons y_int ya_nil)) ya_nil)) (es := [.tuple [.int 0]]) (by show _ + 1 ≤ 1000; omega)
  exact y_tup (ya_cons (y_var h6 (.int n)) (ya_cons a ya_nil)) (by show 2 ≤ 1000; decide)
end
def spRefused (K : PySem.W.Frag) : Sp := fun vs H Q _ => ∃ (S p : Addr) (v u t1 : V) (a c : Addr) (n : Int) (rows : List (List Int)) (line lot : List Int), vs = [.ref S, v, u, t1, .ref a, .ref c] ∧ StOk H S p ∧ Rp K (hide S H) v (bookD n rows) ∧ Rp K (hide S H) u (dRowsL (tiesL n rows)) ∧ Rp K (hide S H) t1 (dRows (fitT n rows line)) ∧
  TI K (hide S H) a line ∧ TI K (hide S H) c lot ∧ WebOk n rows ∧ Ln n line ∧ LotOk n lot ∧ ∀ H', Q (.bl true) H'
section
variable {P : Program} {w : World} {K : PySem.W.Frag} {mg : Str → Option Value} {base : Heap} {ad : Nat → Addr} {fd : Nat → FuncData}
theorem ok__law_refused (T : Txt K mg ad fd) : FnOk P w K mg base CX0 13 (ad 91) (fd 91) ["_law_tape_here", "_law_web", "_law_ties_here", "_law_turned", "_law_line_here", "_law_lot_here"] (spRefused K) := by
  refine T.F__law_refused.ok sc__law_refused (fun vs H Q E h => ?_) (fun cdv A outer s H vs Q E hr h => ?_)
  · obtain ⟨S, p, v, u, t1, a, c, n, rows, line, lot, rfl, _⟩ := h
    rfl
  · obtain ⟨S, p, v, u, t1, a, c, n, rows, line, lot, rfl, st, hv, hu, ht, ta, tc, wo, hL, hlo, k⟩ := h
    refine ⟨_, (pss_cons (ps_set (i := 6) sc__law_refused.nd rfl (Or.inl rfl) (pe_ix (ixT K) (pv 1) pe_int (fun _ _ => rfl)))
  (pss_cons (ps_set (i := 7) sc__law_refused.nd rfl (Or.inl rfl) (pe_lst (pa_cons (pe_callTy (lstOf K) (by rfl) T.g_list (by decide +kernel) (pa_cons (pv 3) pa_nil)) (pa_cons (pe_op (catA K) (pv 3) (pe_tup (pa_cons (pe_tup (pa_cons pe_int (pa_cons pe_int pa_nil))) pa_nil))) (pa_cons pe_non (pa_cons pe_str (pa_cons (pe_tup (pa_cons (pe_tup (pa_cons (pe_op op_sub (pv 6) pe_int) (pa_cons (pv 6) pa_nil))) pa_nil)) (pa_cons pe_bl (pa_cons (pe_lst (pa_cons (pe_tup pa_nil) pa_nil)) (pa_cons pe_int pa_nil))))))))))
  (pss_cons (ps_for PassesOwn.never rfl (piL K (pv 2)) (pg_name (i := 8) (x := "_law_tie") sc__law_refused.nd rfl (Or.inr rfl))
  (pss_cons (ps_set (i := 13) sc__law_refused.nd rfl (Or.inl rfl) (pe_callTy (tupOf K) (by rfl) T.g_tuple (by decide +kernel) (pa_cons (pe_lc (own := [("_law_one", 18)]) (g := gName 18) rfl sc__law_refused.nd (piL K (pv 2)) (blkOk_by (N := ["_law_tape_here", "_law_web", "_law_ties_here", "_law_turned", "_law_line_here", "_law_lot_here", "_law_size", "_law_sortings", "_law_tie", "_law_lots", "_law_lines", "_law_books", "_law_pick", "_law_moved", "_law_kind", "_law_odds", "_law_odd", "_law_due", "_law_one"]) (sc := defScope s__law_refused) (by decide +kernel)) (fun _ _ _ _ _ => (pg_name (i := 18) (x := "_law_one") sc__law_refused.nd rfl (Or.inl rfl))) (fun _ _ _ _ _ => (pts_one (pt_cmpR op_ne (pe_cmpR (inR K (hu65 hr)) (pv 18) (pv 3) (by with_unfolding_all rfl)) (pe_cmpR (eqD K (hu64 hr)) (pv 18) (pv 8) (nomark _)) (nomark _)))) (fun _ _ _ _ _ => (pv 18))) pa_nil)))
  (pss_one (ps_if (pt_cmpR op_lt (pe_callB (lenS K) (by rfl) T.g_len (by decide +kernel) (pa_cons (pe_call (ok__law_least_line T) (hr.mono (by decide)) rfl T.m__law_least_line T.F__law_least_line.kp (b__law_least_line T) .nil pass0 (pa_cons (pv 6) (pa_cons (pv 2) (pa_cons (pv 13) pa_nil)))) pa_nil)) (pv 6) (nomark _)) (pss_one (ps_expr (pe_bmK K PySem.F.plainAttrs_list PySem.F.slot_list_append PySem.F.type_list_append mt_append (pv 7) (pa_cons (pv 13) pa_nil))))
  pss_nil))))
  (pss_cons (ps_set (i := 9) sc__law_refused.nd rfl (Or.inl rfl) (pe_lst (pa_cons (pe_tup pa_nil) (pa_cons (pe_callTy (lstOf K) (by rfl) T.g_list (by decide +kernel) (pa_cons (pv 5) pa_nil)) (pa_cons (pe_op (catA K) (pv 5) (pe_slice (slA K) (pv 5) po_none (po_some pe_int))) (pa_cons (pe_tup (pa_cons (pv 6) pa_nil)) (pa_cons (pe_tup (pa_cons (pe_op op_sub pe_int pe_int) pa_nil)) (pa_cons pe_non (pa_cons (pe_op (catA K) (pe_tup (pa_cons (pe_cmpR op_eq (pe_ix (ixT K) (pv 5) pe_int (fun _ _ => rfl)) pe_int (nomark _)) pa_nil)) (pe_slice (slA K) (pv 5) (po_some pe_int) po_none)) (pa_cons pe_str (pa_cons pe_int (pa_cons (pe_op (catA K) (pe_slice (slA K) (pv 5) po_none (po_some pe_int)) (pv 5)) pa_nil))))))))))))
  (pss_cons (ps_set (i := 10) sc__law_refused.nd rfl (Or.inl rfl) (pe_lst (pa_cons (pe_slice (slA K) (pv 4) (po_some pe_int) po_none) (pa_cons (pe_op (catA K) (pv 4) (pe_tup (pa_cons (pv 6) pa_nil))) (pa_cons (pe_callTy (lstOf K) (by rfl) T.g_list (by decide +kernel) (pa_cons (pv 4) pa_nil)) (pa_cons (pe_op (catA K) (pe_tup (pa_cons (pe_cmpR op_eq (pe_ix (ixT K) (pv 4) pe_int (fun _ _ => rfl)) pe_int (nomark _)) pa_nil)) (pe_slice (slA K) (pv 4) (po_some pe_int) po_none)) (pa_cons pe_non (pa_cons (pe_tup pa_nil) pa_nil))))))))
  (pss_cons (ps_expr (pe_bmK K PySem.F.plainAttrs_list PySem.F.slot_list_append PySem.F.type_list_append mt_append (pv 10) (pa_cons (pe_op (catA K) (pe_op (catA K) (pe_slice (slA K) (pv 4) po_none (po_some pe_int)) (pe_slice (slA K) (pv 4) po_none (po_some pe_int))) (pe_slice (slA K) (pv 4) (po_some pe_int) po_none)) pa_nil)))
  (pss_cons (ps_set (i := 11) sc__law_refused.nd rfl (Or.inl rfl) (pe_lst (pa_cons (pe_tup (pa_cons (pv 6) (pa_cons (pe_callTy (lstOf K) (by rfl) T.g_list (by decide +kernel) (pa_cons (pe_ix (ixT K) (pv 1) pe_int (fun _ _ => rfl)) pa_nil)) pa_nil))) (pa_cons pe_non (pa_cons (pe_tup (pa_cons pe_bl (pa_cons (pe_tup pa_nil) pa_nil))) (pa_cons (pe_op (catA K) (pv 1) (pe_tup (pa_cons (pe_tup pa_nil) pa_nil))) (pa_cons (pe_lst (pa_cons (pv 6) (pa_cons (pe_ix (ixT K) (pv 1) pe_int (fun _ _ => rfl)) pa_nil))) (pa_cons (pe_tup (pa_cons (pv 6) (pa_cons (pe_op (catA K) (pe_ix (ixT K) (pv 1) pe_int (fun _ _ => rfl)) (pe_tup (pa_cons (pe_tup (pa_cons pe_int pa_nil)) pa_nil))) pa_nil))) (pa_cons pe_int pa_nil)))))))))
  (pss_cons (ps_expr (pe_bmK K PySem.F.plainAttrs_list PySem.F.slot_list_append PySem.F.type_list_append mt_append (pv 11) (pa_cons (pe_ix (ixL K) (pe_lst (pa_cons (pe_tup (pa_cons pe_int (pa_cons (pe_tup pa_nil) pa_nil))) (pa_cons (pe_tup (pa_cons pe_int (pa_cons (pe_tup (pa_cons (pe_tup (pa_cons pe_int (pa_cons pe_int pa_nil))) pa_nil)) pa_nil))) pa_nil))) (pe_callTy call_int1 (by rfl) T.g_int (by decide +kernel) (pa_cons (pe_cmpR op_eq (pv 6) pe_int (nomark _)) pa_nil)) (fun _ _ => rfl)) pa_nil)))
  (pss_cons (ps_if (pt_cmpR op_lt (pv 6) pe_int (nomark _)) (pss_one (ps_expr (pe_bmK K PySem.F.plainAttrs_list PySem.F.slot_list_extend PySem.F.type_list_extend mt_extend (pv 11) (pa_cons (pe_lst (pa_cons (pe_tup (pa_cons (pe_op op_add (pv 6) pe_int) (pa_cons (pe_ix (ixT K) (pv 1) pe_int (fun _ _ => rfl)) pa_nil))) (pa_cons (pe_tup (pa_cons (pe_op op_add (pv 6) pe_int) (pa_cons (pe_tup pa_nil) pa_nil))) pa_nil))) pa_nil))))
  pss_nil)
  (pss_cons (ps_for PassesOwn.never rfl (pi_range1 rfl T.g_range (pa_cons pe_int pa_nil)) (pg_name (i := 12) (x := "_law_pick") sc__law_refused.nd rfl (Or.inl rfl))
  (pss_cons (ps_set (i := 14) sc__law_refused.nd rfl (Or.inl rfl) (pe_ix (ixL K) (pe_lst (pa_cons pe_int (pa_cons pe_int (pa_cons pe_int (pa_cons pe_int (pa_cons pe_int (pa_cons pe_int (pa_cons pe_int (pa_cons pe_int pa_nil))))))))) (pv 12) (fun _ _ => rfl)))
  (pss_cons (ps_set (i := 15) sc__law_refused.nd rfl (Or.inl rfl) (pe_ix (ixL K) (pe_lst (pa_cons (pv 7) (pa_cons (pv 9) (pa_cons (pv 10) (pa_cons (pv 11) pa_nil))))) (pv 14) (fun _ _ => rfl)))
  (pss_cons (ps_set (i := 16) sc__law_refused.nd rfl (Or.inl rfl) (pe_ix (ixL K) (pv 15) (pe_call (ok__law_draw T) (hr.mono (by decide)) rfl T.m__law_draw T.F__law_draw.kp (b__law_draw T) .nil pass0 (pa_cons (pv 0) (pa_cons (pe_callB (lenS K) (by rfl) T.g_len (by decide +kernel) (pa_cons (pv 15) pa_nil)) pa_nil))) (fun _ _ => rfl)))
  (pss_cons (ps_set (i := 17) sc__law_refused.nd rfl (Or.inl rfl) (pe_tup (pa_cons (pe_ix (ixL K) (pe_lst (pa_cons pe_str (pa_cons pe_str (pa_cons pe_str (pa_cons pe_str pa_nil))))) (pv 14) (fun _ _ => rfl)) (pa_cons (pe_op op_sub pe_int pe_int) (pa_cons pe_bl (pa_cons pe_bl pa_nil))))))
  (pss_one (ps_if (pt_not (pt_val (pe_call (ok__law_same T) (hr.mono (by decide)) rfl T.m__law_same T.F__law_same.kp (b__law_same T) .nil pass0 (pa_cons (pe_call (ok__law_refusal T) (hr.mono (by decide)) rfl T.m__law_refusal T.F__law_refusal.kp (b__law_refusal T) .nil pass0 (pa_cons (pv 12) (pa_cons (pv 1) (pa_cons (pv 3) (pa_cons (pv 16) pa_nil))))) (pa_cons (pv 17) pa_nil))))) (pss_one (ps_ret pe_bl))
  pss_nil)))))))
  (pss_one (ps_ret pe_bl)))))))))))), ?_⟩
    have hr' := wo.2.2.2
    have hin : RowsIn n rows := rowsOk_in hr'
    have n10 := wo.2.1
    have n1 := wo.1
    have lrow := wo.2.2.1
    have hfl : (fitT n rows line).length ≤ 45 := tiesIn_len fit_tiesIn n10
    have hTL : (tiesL n rows).length ≤ 45 := tiesL_len10 rows n10
    have hll := hL.len
    have llot : lot.length ≤ 10 := by
      have := nodup_le (lot_nd hlo) (m := rgI n.toNat) (fun x hx => rgI_mem.mpr (by have := hlo.2.2 x hx; omega))
      rw [rgI_length] at this
      omega
    have hlot0 : 0 < lot.length := lot_pos hlo
    obtain ⟨b, Lb, xsb, rfl, hb, hLb, hzb, hrb⟩ := rp_book hv
    refine ⟨_, rfl, b, _, 0, _, rfl, rfl, seqT (hide_same S H) hb, rfl, ?_⟩
    dsimp only [gName, tSeq, tAsg, tRet]
    -- sortings
    refine y_useG (K := K) (S := S) (p := p) (ds := sortD n (fitT n rows line)) (ya_cons (y_lstOf (y_var rfl ht)) (ya_cons (y_catT (y_var rfl ht) (y_tup (ya_cons (y_tup (ya_cons y_int (ya_cons y_int ya_nil))) ya_nil)) (by rw [List.length_map]; show _ + 1 ≤ 1000; omega)) (ya_cons y_non (ya_cons y_str (ya_cons (y_tup (ya_cons (y_tup (ya_cons (y_sub (y_var rfl (.int n)) y_int) (ya_cons (y_var rfl (.int n)) ya_nil))) ya_nil)) (ya_cons y_bl (ya_cons (y_lst (ya_cons (y_tup ya_nil) ya_nil)) (ya_cons y_int ya_nil)))))))) st (by show 8 ≤ 400; decide) fun A xs0 H1 hA g1 lx0 => ?_
    have lx0 : xs0.length = 8 := lx0
    obtain ⟨L, xsL, rfl, hLL, hzL, hrL⟩ := hu.lstA
    have lxL : xsL.length = (tiesL n rows).length := by rw [hrL.length, List.length_map]
    have sqL : ∀ {H'}, Mv S p H H' → SqL K H' L xsL := fun m => (m.same.trans (hide_same S _)).seq hLL
    refine ⟨_, rfl, L, rfl, ⟨_, sqL g1.mv⟩, ?_⟩
    refine for_list (K := K) (a := L) (xs := xsL) (fun i σ H2 => ∃ (xs : List V) (ds : List PyData) (v8 v13 v18 : Option V), σ = [some (.ref S), some (.ref b), some (.ref L), some t1, some (.ref a), some (.ref c), some (.int n), some (.ref A), v8, none, none, none, none, v13, none, none, none, none, v18] ∧ GrowD K S p A H H2 xs ds ∧ (∀ d ∈ ds, isSorting n rows d = false) ∧ xs.length ≤ 8 + i ∧ 0 < xs.length)
      ⟨xs0, _, _, _, _, rfl, g1, sortD_odd, by omega, by omega⟩ (fun i σ H2 _ ⟨_, _, _, _, _, _, g2, _⟩ => sqL g2.mv) (fun i x σ H2 hi ⟨xs, ds, v8, v13, v18, e2, g2, od2, l2, p2⟩ => ?_) (fun σ H2 ⟨xs, ds, v8, v13, v18, e2, g2, od2, l2, p2⟩ => ?_)
    · subst e2
      have m2 := g2.mv
      obtain ⟨t, at_, hn, rfl, tt⟩ := hrL.row hi
      have hrL2 := hrL.same (m2.same.trans (hide_same S H2))
      have tt2 := tt.same (m2.same.trans (hide_same S H2))
      have ht2 := rp_show (m2.rp ht)
      refine ⟨_, rfl, L, rfl, ⟨_, sqL m2⟩, fun D hD => ?_⟩
      refine lcL (K := K) (xs := xsL) (fun j => decide ((tiesL n rows).getD j [] ∈ fitT n rows line) != decide ((tiesL n rows).getD j [] = t)) (fun j => dTup ((tiesL n rows).getD j [])) hD (sqL m2) hzL (fun _ _ _ => noL_dTup _) (fun j x H3 hj s3 Q1 Q2 k1 k2 => ?_) (fun ys H3 s3 hy r3 => ?_)
      · obtain ⟨r, a2, hnr, rfl, tr⟩ := hrL2.row hj
        have tr := tr.same s3
        have en : (tiesL n rows).getD j [] = r := by rw [List.getD_eq_getElem?_getD, hnr]; rfl
        rw [en] at k1 k2
        refine ⟨rfl, _, rfl, _, rfl, r, fitT n rows line, tr.rp, ht2.same s3, _, rfl, _, rfl, dTup r, dTup t, tr.rp.dp, (tt2.same s3).rp.dp, shaped_row r, shaped_row t, rfl, _, rfl, ?_⟩
        rw [eqv_row]
        have ec : (!decide (V.bl (if false = true then !decide (r ∈ fitT n rows line) else decide (r ∈ fitT n rows line)) = V.bl (decide (r = t)))) = (decide (r ∈ fitT n rows line) != decide (r = t)) := by
          cases decide (r ∈ fitT n rows line) <;> cases decide (r = t) <;> rfl
        rw [ec]
        cases cc : (decide (r ∈ fitT n rows line) != decide (r = t)) with
        | true => exact iteT ⟨_, rfl, k1 cc _ _ (Same.refl _) tr.rp⟩
        | false => exact iteF (k2 cc _ (Same.refl _))
      have ez : (((List.range xsL.length).filter fun j => decide ((tiesL n rows).getD j [] ∈ fitT n rows line) != decide ((tiesL n rows).getD j [] = t)).map fun j => dTup ((tiesL n rows).getD j [])) = ((tiesL n rows).filter fun r => decide (r ∈ fitT n rows line) != decide (r = t)).map dTup := by
        rw [lxL]
        exact filter_map_range (fun r : List Int => decide (r ∈ fitT n rows line) != decide (r = t)) (fun r => dTup r) [] (tiesL n rows)
      rw [ez] at r3
      have hM : ((tiesL n rows).filter fun r => decide (r ∈ fitT n rows line) != decide (r = t)).length ≤ 45 := Nat.le_trans (List.length_filter_le _ _) hTL
      have pM : Prs ((tiesL n rows).filter fun r => decide (r ∈ fitT n rows line) != decide (r = t)) := fun r hr => tiesL_prs _ _ r (List.mem_filter.mp hr).1
      generalize ((tiesL n rows).filter fun r => decide (r ∈ fitT n rows line) != decide (r = t)) = M at *
      have ly : ys.length ≤ 1000 := by rw [r3.length, List.length_map]; omega
      dsimp only [tNil]
      refine tupL_use (SqL.of hy) fun q4 H4 s4 t4 => ?_
      have rm : Rp K H4 (.ref q4) (dRows M) := .tup t4 ly (r3.same s4)
      have m24 := (Mv.refl m2.ok).then (s3.trans s4)
      refine ⟨_, rfl, _, rfl, _, rfl, .ref L, .ref q4, n, tiesL n rows, M, rfl, rp_show ((m2.trans m24).rp hu), rm, tiesL_prs _ _, pM, by omega, by omega, hL.2, by omega, fun f H5 s5 tf => ⟨f, _, rfl, .inr tf.1.1, _, rfl, _, _, rfl, rfl, _, rfl, ?_⟩⟩
      have m25 := m24.then s5
      have g5 := g2.mvs hA st m25
      rw [List.length_map]
      by_cases cs : (((leastAt n.toNat (tiesL n rows) M n.toNat).length : Nat) : Int) < n
      · rw [decide_eq_true cs]
        have hs1 : (1000 : Nat) < sizeLine := by decide
        have ho := short_not hL.2 hin cs
        have hiL := (List.getElem?_eq_some_iff.mp hi).1
        refine iteT ⟨_, rfl, .inl ⟨rfl, _, SqL.of g5.at_⟩, _, rfl, A, xs, .ref q4, rfl, rfl, g5.at_, by omega, ?_⟩
        refine ⟨_, _, _, _, _, rfl, g5.push hA st (rp_hide m25.ok (noL_dRows _) (rm.same s5)) (noL_dRows _) (by omega), fun d hd => ?_, by rw [List.length_append, List.length_singleton]; omega, by rw [List.length_append, List.length_singleton]; omega⟩
        rcases List.mem_append.mp hd with z | z
        · exact od2 d z
        · rw [List.mem_singleton.mp z]
          exact ho
      · rw [decide_eq_false cs]
        exact iteF ⟨_, _, _, _, _, rfl, g5, od2, by omega, p2⟩
    · subst e2
      have m2 := g2.mv
      have ht2 := m2.rp ht
      have ta2 := m2.ti ta
      have tc2 := m2.ti tc
      have hv2 := m2.rp hv
      dsimp only [gName, tSeq, tAsg, tRet]
      -- lots
      refine y_useG (K := K) (S := S) (p := p) (ds := lotD n lot (decide (V.int (lot.getD 0 0) = V.int 1))) (ya_cons (y_tup ya_nil) (ya_cons (y_lstOf (y_var rfl tc2.rp)) (ya_cons (y_catT (y_var rfl tc2.rp) (y_take (k := 1) (y_var rfl tc2.rp)) (by rw [List.length_take, List.length_map]; omega)) (ya_cons (y_tup (ya_cons (y_var rfl (.int n)) ya_nil)) (ya_cons (y_tup (ya_cons (y_sub y_int y_int) ya_nil)) (ya_cons y_non (ya_cons (y_catT (y_tup (ya_cons (y_eq (y_ixT (j := 0) (d := .int (lot.getD 0 0)) (y_var rfl tc2.rp) y_int (by rw [List.getElem?_map, List.getD_eq_getElem?_getD, List.getElem?_eq_getElem hlot0]; rfl)) y_int) ya_nil)) (y_drop (k := 1) (y_var rfl tc2.rp)) (by rw [List.length_drop, List.length_map]; show 1 + _ ≤ 1000; omega)) (ya_cons y_str (ya_cons y_int (ya_cons (y_catT (y_take (k := 1) (y_var rfl tc2.rp)) (y_var rfl tc2.rp) (by rw [List.length_take, List.length_map]; omega)) ya_nil)))))))))) m2.ok (by show 10 ≤ 400; decide) fun B xsB H3 hB gB lB => ?_
      have lB : xsB.length = 10 := lB
      have oB := lotD_odd (b := decide (V.int (lot.getD 0 0) = V.int 1)) hlo
      generalize lotD n lot (decide (V.int (lot.getD 0 0) = V.int 1)) = dB at *
      have m23 := gB.mv
      have ta3 := m23.ti ta2
      -- lines
      refine y_useG (K := K) (S := S) (p := p) (ds := lineDD n line (decide (V.int (line.getD 0 0) = V.int 1))) (ya_cons (y_drop (k := 1) (y_var rfl ta3.rp)) (ya_cons (y_catT (y_var rfl ta3.rp) (y_tup (ya_cons (y_var rfl (.int n)) ya_nil)) (by rw [List.length_map]; show _ + 1 ≤ 1000; omega)) (ya_cons (y_lstOf (y_var rfl ta3.rp)) (ya_cons (y_catT (y_tup (ya_cons (y_eq (y_ixT (j := 0) (d := .int (line.getD 0 0)) (y_var rfl ta3.rp) y_int (by rw [List.getElem?_map, List.getD_eq_getElem?_getD, List.getElem?_eq_getElem (by omega)]; rfl)) y_int) ya_nil)) (y_drop (k := 1) (y_var rfl ta3.rp)) (by rw [List.length_drop, List.length_map]; show 1 + _ ≤ 1000; omega)) (ya_cons y_non (ya_cons (y_tup ya_nil) ya_nil)))))) m23.ok (by show 6 ≤ 400; decide) fun C xsC H4 hC gC lC => ?_
      have lC : xsC.length = 6 := lC
      have oC := lineD_odd (b := decide (V.int (line.getD 0 0) = V.int 1)) hL n1
      generalize lineDD n line (decide (V.int (line.getD 0 0) = V.int 1)) = dC at *
      have m34 := gC.mv
      have ta4 := m34.ti ta3
      have hs1 : (1000 : Nat) < sizeLine := by decide
      -- lines.append
      refine ⟨_, rfl, .inl ⟨rfl, _, SqL.of gC.at_⟩, ?_⟩
      refine y_useV (K := K) (S := S) (p := p) (d := .tuple (((line.map PyData.int).take 1 ++ (line.map PyData.int).take 1) ++ (line.map PyData.int).drop 2)) (y_catT (y_catT (y_take (k := 1) (y_var rfl ta4.rp)) (y_take (k := 1) (y_var rfl ta4.rp)) (by rw [List.length_take, List.length_map]; omega)) (y_drop (k := 2) (y_var rfl ta4.rp)) (by rw [List.length_append, List.length_take, List.length_drop, List.length_map]; omega)) m34.ok fun w5 H5 m45 r5 => ?_
      have gC5 := gC.mvs hC m23.ok m45
      have gC6 := gC5.push hC m23.ok r5 (noL_twice line) (by omega)
      refine ⟨C, xsC, w5, rfl, rfl, gC5.at_, by omega, ?_⟩
      have oC6 : ∀ d ∈ dC ++ [.tuple (((line.map PyData.int).take 1 ++ (line.map PyData.int).take 1) ++ (line.map PyData.int).drop 2)], isLine n d = false := fun d hd => by
        rcases List.mem_append.mp hd with z | z
        · exact oC d z
        · rw [List.mem_singleton.mp z]
          exact line_twice hL n1
      have lC6 : (xsC ++ [w5]).length = 7 := by rw [List.length_append, List.length_singleton]; omega
      generalize dC ++ [.tuple (((line.map PyData.int).take 1 ++ (line.map PyData.int).take 1) ++ (line.map PyData.int).drop 2)] = dC6 at *
      generalize xsC ++ [w5] = xsC6 at *
      have m36 := gC6.mv
      generalize upd H5 C (HO.lst xsC6) = H6 at *
      have gB6 := gB.mvs hB m2.ok m36
      have gA6 := g2.mvs hA st (m23.trans m36)
      have hv6 := (m23.trans m36).rp hv2
      have e6 := m36.ok
      have hv6' : Rp K (hide S H6) (.ref b) (.tuple [.int n, .tuple (rows.map dTup)]) := hv6
      clear gC gC5 m34 ta4 r5 m45
      -- books
      dsimp only [gName, tSeq, tAsg, tRet]
      refine y_useG (K := K) (S := S) (p := p) (ds := bookDD n rows) (ya_cons (y_tup (ya_cons (y_var rfl (.int n)) (ya_cons (y_lstOf (y_web1 rfl hv6')) ya_nil))) (ya_cons y_non (ya_cons (y_tup (ya_cons y_bl (ya_cons (y_tup ya_nil) ya_nil))) (ya_cons (y_b5 rfl hv6') (ya_cons (y_lst (ya_cons (y_var rfl (.int n)) (ya_cons (y_web1 rfl hv6') ya_nil))) (ya_cons (y_b7 rfl rfl (by rw [List.length_map]; omega) hv6') (ya_cons y_int ya_nil))))))) e6 (by show 7 ≤ 400; decide) fun X xsX H7 hX gX lX => ?_
      have lX : xsX.length = 7 := lX
      have oX := bookD_odd (n := n) (rows := rows)
      generalize bookDD n rows = dX at *
      have m67 := gX.mv
      -- books.append
      obtain ⟨j, ej, dj, hj, oj, nj⟩ := other_one n n1
      refine ⟨_, rfl, .inl ⟨rfl, _, SqL.of gX.at_⟩, ?_⟩
      refine y_useV (K := K) (S := S) (p := p) (d := dj) (y_ixL (j := j) (y_lst (ya_cons (y_tup (ya_cons y_int (ya_cons (y_tup ya_nil) ya_nil))) (ya_cons (y_tup (ya_cons y_int (ya_cons (y_tup (ya_cons (y_tup (ya_cons y_int (ya_cons y_int ya_nil))) ya_nil)) ya_nil))) ya_nil))) (y_cast (y_intB (y_eq (y_var rfl (.int n)) y_int)) (congrArg PyData.int ej)) hj) m67.ok fun w8 H8 m78 r8 => ?_
      have gX8 := gX.mvs hX e6 m78
      have gX9 := gX8.push hX e6 r8 nj (by omega)
      refine ⟨X, xsX, w8, rfl, rfl, gX8.at_, by omega, ?_⟩
      have oX9 : ∀ d ∈ dX ++ [dj], NotOther n d := fun d hd => by
        rcases List.mem_append.mp hd with z | z
        · exact oX d z
        · rw [List.mem_singleton.mp z]
          exact oj
      have lX9 : (xsX ++ [w8]).length = 8 := by rw [List.length_append, List.length_singleton]; omega
      generalize dX ++ [dj] = dX9 at *
      generalize xsX ++ [w8] = xsX9 at *
      generalize upd H8 X (HO.lst xsX9) = H9 at *
      clear gX gX8 m67 r8 m78
      dsimp only [gName, tSeq, tAsg, tRet]
      -- size < 10
      refine tIf_join (fun σ' H' => ∃ (xs : List V) (ds' : List PyData), σ' = [some (.ref S), some (.ref b), some (.ref L), some t1, some (.ref a), some (.ref c), some (.int n), some (.ref A), v8, some (.ref B), some (.ref C), some (.ref X), none, v13, none, none, none, none, v18] ∧ GrowD K S p X H6 H' xs ds' ∧ (∀ d ∈ ds', NotOther n d) ∧ xs.length ≤ 20 ∧ 0 < xs.length) (fun σ' H' ⟨xsE, dE, eσ, gE, oE, lE, pE⟩ => ?_) (fun hn => ?_)
      rotate_left
      · refine ⟨_, rfl, _, _, rfl, rfl, _, rfl, ?_⟩
        cases decide (n < 10) with
        | false => exact iteF (hn _ _ ⟨_, _, rfl, gX9, oX9, by omega, by omega⟩)
        | true =>
          have hv9 := gX9.mv.rp hv6'
          refine iteT ⟨_, rfl, .inl ⟨rfl, _, SqL.of gX9.at_⟩, ?_⟩
          refine y_useG (K := K) (S := S) (p := p) (ds := [.tuple [.int (n + 1), .tuple (rows.map dTup)], .tuple [.int (n + 1), .tuple []]]) (ya_cons (y_tup (ya_cons (y_add (y_var rfl (.int n)) y_int) (ya_cons (y_web1 rfl hv9) ya_nil))) (ya_cons (y_tup (ya_cons (y_add (y_var rfl (.int n)) y_int) (ya_cons (y_tup ya_nil) ya_nil))) ya_nil)) gX9.mv.ok (by show 2 ≤ 400; decide) fun Z xsZ H10 hZ gZ lZ => ?_
          have lZ : xsZ.length = 2 := lZ
          have gX10 := gX9.mvs hX e6 gZ.mv
          refine ⟨X, Z, xsX9, xsZ, rfl, rfl, gX10.at_, gZ.at_, by omega, ?_⟩
          have nn : noLs [PyData.tuple [.int (n + 1), .tuple (rows.map dTup)], .tuple [.int (n + 1), .tuple []]] = true := by
            have h1 : noL (.tuple [.int (n + 1), .tuple (rows.map dTup)]) = true := noL_book (n + 1) rows
            unfold noLs
            rw [h1]
            rfl
          refine hn _ _ ⟨_, _, rfl, gX10.ext hX e6 (gZ.rp.same (hide_same _ _)) nn (by omega), fun d hd => ?_, by rw [List.length_append]; omega, by rw [List.length_append]; omega⟩
          rcases List.mem_append.mp hd with z | z
          · exact oX9 d z
          · simp only [List.mem_cons, List.not_mem_nil, or_false] at z
            rcases z with rfl | rfl
            · refine not_size ?_
              show n + 1 ≠ n
              omega
            · refine not_size ?_
              show n + 1 ≠ n
              omega
      subst eσ
      have m6s := gE.mv
      have rE := gE.done hX e6
      have rC := (gC6.mvs hC m23.ok m6s).done hC m23.ok
      have rB := (gB6.mvs hB m2.ok m6s).done hB m2.ok
      have rA := (gA6.mvs hA st m6s).done hA st
      have m0s : Mv S p H H' := (m2.trans (m23.trans m36)).trans m6s
      have hvs := m0s.rp hv
      have hts := m0s.rp ht
      have es := m0s.ok
      have lE' := gE.rp.length
      have lC' := gC6.rp.length
      have lB' := gB6.rp.length
      have lA' := gA6.rp.length
      have gAl := gA6.len
      -- the eight
      refine ⟨8, rfl, by decide, by decide, ?_⟩
      refine for_range (lo := 0) (n := 8) (fun i σ H6 => ∃ (v12 v14 v15 v16 v17 : Option V), σ = [some (.ref S), some (.ref b), some (.ref L), some t1, some (.ref a), some (.ref c), some (.int n), some (.ref A), v8, some (.ref B), some (.ref C), some (.ref X), v12, v13, v14, v15, v16, v17, v18] ∧ Mv S p H' H6)
        ⟨_, _, _, _, _, rfl, Mv.refl es⟩ (fun i σ H6 hi ⟨v12, v14, v15, v16, v17, e6', m6⟩ => ?_) (fun σ H6 ⟨v12, v14, v15, v16, v17, e6', m6⟩ => ?_)
      · subst e6'
        obtain ⟨ds', hds, hcase, hodd⟩ := pick_odd (rows := rows) od2 oB oC6 oE i hi
        have hk4 := kindN_lt hi
        have lds : 0 < ds'.length ∧ ds'.length ≤ 500 := by
          rcases hcase with e | e | e | e <;> rw [e] <;> omega
        rw [Int.zero_add]
        try dsimp only [gName, tSeq, tAsg, tRet]
        refine y_useO (K := K) (S := S) (p := p) (y_ixL (j := i) (y_lst (ya_cons y_int (ya_cons y_int (ya_cons y_int (ya_cons y_int (ya_cons y_int (ya_cons y_int (ya_cons y_int (ya_cons y_int ya_nil))))))))) (y_var rfl (.int ((i : Nat) : Int))) (kind_at i hi)) m6.ok fun v14' H7 m7 r7 => ?_
        cases r7
        have m07 := m6.trans m7
        try dsimp only [gName, tSeq, tAsg, tRet]
        refine y_useO (K := K) (S := S) (p := p) (y_ixL (j := kindN i) (y_lst (ya_cons (y_var rfl (m07.rp rA)) (ya_cons (y_var rfl (m07.rp rB)) (ya_cons (y_var rfl (m07.rp rC)) (ya_cons (y_var rfl (m07.rp rE)) ya_nil))))) (y_var rfl (.int ((kindN i : Nat) : Int))) hds) m7.ok fun v15' H8 m8 r8 => ?_
        have m08 := m07.trans m8
        obtain ⟨aO, xO, rfl, hO, zO, raO⟩ := r8.lstA
        have lO := raO.length
        try dsimp only [gName, tSeq, tAsg, tRet]
        refine y_draw (K := K) (S := S) (p := p) (y_var rfl r8) m8.ok (fun H9 Q1 m9 k9 => ⟨_, rfl, _, rfl, aO, xO, rfl, .inl ((m9.same.trans (hide_same S H9)).seq hO), S, p, _, rfl, m9.ok, by omega, by omega, fun r H10 r0 r1 m10 => k9 r H10 r0 (by omega) m10⟩) fun vw d H11 hd m11 rw11 => ?_
        have m0b := m08.trans m11
        try dsimp only [gName, tSeq, tAsg, tRet]
        refine y_useT (K := K) (S := S) (p := p) (d := .tuple [.str (wordN (kindN i)), .int (0 - 1), .bool true, .bool false]) (y_tup (ya_cons (y_ixL (j := kindN i) (y_lst (ya_cons y_str (ya_cons y_str (ya_cons y_str (ya_cons y_str ya_nil))))) (y_var rfl (.int ((kindN i : Nat) : Int))) (word_at _ hk4)) (ya_cons (y_sub y_int y_int) (ya_cons y_bl (ya_cons y_bl ya_nil))))) m11.ok fun v17' H12 m12 r12 => ?_
        have m0c := m0b.trans m12
        refine ⟨_, rfl, _, rfl, _, rfl, _, rfl, ((i : Nat) : Int), .ref b, t1, vw, n, rows, line, d, wordN (kindN i), rfl, rp_show (m0c.rp hvs), rp_show (m0c.rp hts), rp_show (m12.rp rw11), wo, hL, hodd d hd, fun z H13 s13 rz => ?_⟩
        refine ⟨_, rfl, z, v17', _, _, rfl, rz, (rp_show r12).same s13, rfl, by show 1 ≤ 3; decide, fun bb H14 s14 e14 => ⟨_, rfl, ?_⟩⟩
        have eb : bb = true := e14.mpr rfl
        subst eb
        exact iteF ⟨_, _, _, _, _, rfl, m0c.then (s13.trans s14)⟩
      · subst e6'
        exact k _
end
end LK
namespace LK
open PySem PySem.Spec PyProof.Rows L2
def spTape (K : PySem.W.Frag) : Sp := fun vs H Q _ => ∃ (p : Addr) (is : List Int), vs = [.ref p] ∧ SqL K H p (is.map V.int) ∧ is.length ≤ 63 ∧ ∀ S H', Same H H' → H S = none → StOk H' S p → Q (.ref S) H'
section
variable {P : Program} {w : World} {K : PySem.W.Frag} {mg : Str → Option Value} {base : Heap} {ad : Nat → Addr} {fd : Nat → FuncData}
theorem ok__law_tape (T : Txt K mg ad fd) : FnOk P w K mg base CX0 1 (ad 69) (fd 69) ["_law_script"] (spTape K) := by
  refine T.F__law_tape.ok sc__law_tape (fun vs H Q E h => ?_) (fun cdv A outer s H vs Q E hr h => ?_)
  · obtain ⟨p, is, rfl, _⟩ := h
    rfl
  · obtain ⟨p, is, rfl, hp, hl, k⟩ := h
    refine ⟨_, (pss_cons (ps_set (i := 1) sc__law_tape.nd rfl (Or.inl rfl) pe_int)
  (pss_cons (ps_set (i := 2) sc__law_tape.nd rfl (Or.inl rfl) pe_int)
  (pss_cons (ps_for PassesOwn.never rfl (piL K (pv 0)) (pg_name (i := 3) (x := "_law_cell") sc__law_tape.nd rfl (Or.inl rfl))
  (pss_cons (ps_set (i := 1) sc__law_tape.nd rfl (Or.inl rfl) (pe_op op_mod (pe_callTy call_int1 (by rfl) T.g_int (by decide +kernel) (pa_cons (pe_op op_add (pe_op op_mul (pv 1) pe_int) (pv 3)) pa_nil)) pe_int))
  (pss_one (ps_if (PW.pt (pw_and (pt_cmpR op_eq (pv 2) pe_int (nomark _)) (pw_and1 (pt_cmpR op_ge (pe_callB call_abs (by rfl) T.g_abs (by decide +kernel) (pa_cons (pv 3) pa_nil)) pe_int (nomark _))))) (pss_one (ps_set (i := 2) sc__law_tape.nd rfl (Or.inl rfl) (pe_callB call_abs (by rfl) T.g_abs (by decide +kernel) (pa_cons (pv 3) pa_nil))))
  pss_nil))))
  (pss_one (ps_ret (pe_lst (pa_cons (pv 2) (pa_cons (pv 1) pa_nil)))))))), ?_⟩
    refine ⟨_, rfl, p, rfl, ⟨_, hp⟩, for_list (K := K) (a := p) (xs := is.map V.int) (fun i σ H1 => ∃ (st big : Int) (v3 : Option V), σ = [some (.ref p), some (.int st), some (.int big), v3] ∧ H1 = H ∧ 0 ≤ st ∧ st < 2147483123)
      ⟨13146, 0, none, rfl, rfl, by decide, by decide⟩ (fun i σ H1 _ ⟨_, _, _, _, e, _⟩ => by rw [e]; exact hp) (fun i v σ H1 hi ⟨st, big, v3, e1, e2, h0, h1⟩ => ?_) (fun σ H1 ⟨st, big, v3, e1, e2, h0, h1⟩ => ?_)⟩
    · subst e1 e2
      obtain ⟨x, hx, rfl⟩ : ∃ x, is[i]? = some x ∧ v = .int x := by
        rw [List.getElem?_map] at hi
        cases e : is[i]? with
        | none => rw [e] at hi; cases hi
        | some x => rw [e] at hi; exact ⟨x, rfl, (Option.some.inj hi).symm⟩
      have m0 : 0 ≤ (st * 1667 + x) % 2147483123 := Int.emod_nonneg _ (by decide)
      have m1 : (st * 1667 + x) % 2147483123 < 2147483123 := Int.emod_lt_of_pos _ (by decide)
      refine ⟨_, rfl, _, _, rfl, rfl, .inl ⟨by omega, by omega⟩, _, rfl, _, _, rfl, rfl, .inl ⟨_, rfl, _, _, rfl, rfl, (by show (0 : Int) < 2147483123; decide), ?_⟩⟩
      refine ⟨_, rfl, rfl, _, rfl, ?_⟩
      cases decide (V.int big = V.int 0) with
      | false => exact iteF ⟨_, _, _, rfl, rfl, m0, m1⟩
      | true =>
        refine iteT ⟨_, rfl, _, rfl, _, _, rfl, rfl, _, rfl, ?_⟩
        cases decide ((1000000000000000000 : Int) ≤ (if x < 0 then -x else x)) with
        | false => exact iteF ⟨_, _, _, rfl, rfl, m0, m1⟩
        | true => exact iteT ⟨_, rfl, _, rfl, _, _, _, rfl, rfl, m0, m1⟩
    · subst e1 e2
      refine ⟨_, rfl, _, rfl, (by show 2 ≤ sizeLine; decide), fun S hS => ?_⟩
      exact k S _ (same_upd hS) hS ⟨big, st, upd_same, h0, h1⟩
end
end LK
namespace LK
open PySem PySem.Spec PyProof.Rows L2
theorem rp_hideLst {K : PySem.W.Frag} {H : Hp} {S p a : Addr} {ds : List PyData} (st : StOk H S p) (ne : a ≠ S) (n : noLs ds = true) (r : Rp K H (.ref a) (.list ds)) : Rp K (hide S H) (.ref a) (.list ds) := by
  obtain ⟨zs, e⟩ := st.atS
  obtain ⟨a', xs, ea, ha, la, ra⟩ := r.lstA
  cases ea
  refine .lst ?_ la (rpAll_hideL e n ra)
  rcases ha with (h | ⟨o, h⟩) | h
  · exact .inl (.inl (by rw [hide_ne ne]; exact h))
  · exact .inl (.inr ⟨o, by rw [hide_ne ne]; exact h⟩)
  · exact .inr h
def spLaw (K : PySem.W.Frag) : Sp := fun vs H Q _ => ∃ (a : Addr) (ns : List Int), vs = [.ref a] ∧ SqL K H a (ns.map V.int) ∧ ns.length ≤ 63 ∧ ∀ H', Q (.bl true) H'
section
variable {P : Program} {w : World} {K : PySem.W.Frag} {mg : Str → Option Value} {base : Heap} {ad : Nat → Addr} {fd : Nat → FuncData}
theorem ok_law (T : Txt K mg ad fd) : FnOk P w K mg base CX0 14 (ad 92) (fd 92) ["_law_script"] (spLaw K) := by
  refine T.F_law.ok sc_law (fun vs H Q E h => ?_) (fun cdv A outer s H vs Q E hr h => ?_)
  · obtain ⟨a, ns, rfl, _⟩ := h
    rfl
  · obtain ⟨a, ns, rfl, hs, hl, k⟩ := h
    refine ⟨_, (pss_cons (ps_set (i := 1) sc_law.nd rfl (Or.inl rfl) (pe_call (ok__law_tape T) (hr.mono (by decide)) rfl T.m__law_tape T.F__law_tape.kp (b__law_tape T) .nil pass0 (pa_cons (pv 0) pa_nil)))
  (pss_cons (ps_set (i := 2) sc_law.nd rfl (Or.inl rfl) (pe_call (ok__law_book T) (hr.mono (by decide)) rfl T.m__law_book T.F__law_book.kp (b__law_book T) .nil pass0 (pa_cons (pv 1) pa_nil)))
  (pss_cons (ps_set (i := 3) sc_law.nd rfl (Or.inl rfl) (pe_ix (ixT K) (pv 2) pe_int (fun _ _ => rfl)))
  (pss_cons (ps_set (i := 4) sc_law.nd rfl (Or.inl rfl) (pe_call (ok__law_ties T) (hr.mono (by decide)) rfl T.m__law_ties T.F__law_ties.kp (b__law_ties T) .nil pass0 (pa_cons (pv 2) pa_nil)))
  (pss_cons (ps_set (i := 5) sc_law.nd rfl (Or.inl rfl) (pe_call (ok__law_line T) (hr.mono (by decide)) rfl T.m__law_line T.F__law_line.kp (b__law_line T) .nil pass0 (pa_cons (pv 1) (pa_cons (pv 3) pa_nil))))
  (pss_cons (ps_set (i := 6) sc_law.nd rfl (Or.inl rfl) (pe_call (ok__law_lot T) (hr.mono (by decide)) rfl T.m__law_lot T.F__law_lot.kp (b__law_lot T) .nil pass0 (pa_cons (pv 1) (pa_cons (pv 3) pa_nil))))
  (pss_cons (ps_set (i := 7) sc_law.nd rfl (Or.inl rfl) (pe_call (ok__law_lot T) (hr.mono (by decide)) rfl T.m__law_lot T.F__law_lot.kp (b__law_lot T) .nil pass0 (pa_cons (pv 1) (pa_cons (pe_callB (lenS K) (by rfl) T.g_len (by decide +kernel) (pa_cons (pv 6) pa_nil)) pa_nil))))
  (pss_cons (ps_set (i := 8) sc_law.nd rfl (Or.inl rfl) (pe_call (ok__law_other T) (hr.mono (by decide)) rfl T.m__law_other T.F__law_other.kp (b__law_other T) .nil pass0 (pa_cons (pv 1) (pa_cons (pv 2) pa_nil))))
  (pss_cons (ps_set (i := 9) sc_law.nd rfl (Or.inl rfl) (pe_lst (pa_cons (pv 5) (pa_cons (pe_call (ok__law_higher T) (hr.mono (by decide)) rfl T.m__law_higher T.F__law_higher.kp (b__law_higher T) .nil pass0 (pa_cons (pv 1) (pa_cons (pv 5) pa_nil))) (pa_cons (pe_call (ok__law_line T) (hr.mono (by decide)) rfl T.m__law_line T.F__law_line.kp (b__law_line T) .nil pass0 (pa_cons (pv 1) (pa_cons (pv 3) pa_nil))) (pa_cons (pe_tupRgN K rfl rfl T.g_tuple (prg_1 rfl T.g_range (pv 3))) pa_nil))))))
  (pss_cons (ps_if (pt_cmpR op_eq (pe_call (ok__law_draw T) (hr.mono (by decide)) rfl T.m__law_draw T.F__law_draw.kp (b__law_draw T) .nil pass0 (pa_cons (pv 1) (pa_cons pe_int pa_nil))) pe_int (nomark _)) (pss_one (ps_asg (pe_revN K (pe_tupRgN K rfl rfl T.g_tuple (prg_1 rfl T.g_range (pv 3)))) (pg_sub (pv 9) pe_int set_list)))
  pss_nil)
  (pss_cons (ps_for PassesOwn.never rfl (pi_range1 rfl T.g_range (pa_cons pe_int pa_nil)) (pg_name (i := 10) (x := "_law_k") sc_law.nd rfl (Or.inl rfl))
  (pss_cons (ps_set (i := 11) sc_law.nd rfl (Or.inl rfl) (pe_call (ok__law_by_line T) (hr.mono (by decide)) rfl T.m__law_by_line T.F__law_by_line.kp (b__law_by_line T) .nil pass0 (pa_cons (pv 4) (pa_cons (pe_ix (ixL K) (pv 9) (pv 10) (fun _ _ => rfl)) pa_nil))))
  (pss_cons (ps_set (i := 12) sc_law.nd rfl (Or.inl rfl) (pe_ix (ixL K) (pv 9) (pe_op op_mod (pe_callTy call_int1 (by rfl) T.g_int (by decide +kernel) (pa_cons (pe_op op_add (pv 10) pe_int) pa_nil)) pe_int) (fun _ _ => rfl)))
  (pss_cons (ps_if (pt_not (pt_val (pe_call (ok__law_over_told T) (hr.mono (by decide)) rfl T.m__law_over_told T.F__law_over_told.kp (b__law_over_told T) .nil pass0 (pa_cons (pv 2) (pa_cons (pv 4) (pa_cons (pv 11) (pa_cons (pe_call (ok__law_by_line T) (hr.mono (by decide)) rfl T.m__law_by_line T.F__law_by_line.kp (b__law_by_line T) .nil pass0 (pa_cons (pv 4) (pa_cons (pv 12) pa_nil))) (pa_cons (pe_call (ok__law_draw T) (hr.mono (by decide)) rfl T.m__law_draw T.F__law_draw.kp (b__law_draw T) .nil pass0 (pa_cons (pv 1) (pa_cons (pv 3) pa_nil))) pa_nil)))))))) (pss_one (ps_ret pe_bl))
  pss_nil)
  (pss_cons (ps_if (pt_not (pt_val (pe_call (ok__law_kept_told T) (hr.mono (by decide)) rfl T.m__law_kept_told T.F__law_kept_told.kp (b__law_kept_told T) .nil pass0 (pa_cons (pv 2) (pa_cons (pe_ix (ixL K) (pv 9) (pv 10) (fun _ _ => rfl)) (pa_cons (pv 12) (pa_cons (pv 6) (pa_cons (pv 7) pa_nil)))))))) (pss_one (ps_ret pe_bl))
  pss_nil)
  (pss_cons (ps_if (pt_not (pt_val (pe_call (ok__law_mirrored_told T) (hr.mono (by decide)) rfl T.m__law_mirrored_told T.F__law_mirrored_told.kp (b__law_mirrored_told T) .nil pass0 (pa_cons (pv 2) (pa_cons (pv 11) (pa_cons (pe_ix (ixL K) (pv 9) (pv 10) (fun _ _ => rfl)) pa_nil)))))) (pss_one (ps_ret pe_bl))
  pss_nil)
  (pss_cons (ps_if (pt_not (pt_val (pe_call (ok__law_rebased_told T) (hr.mono (by decide)) rfl T.m__law_rebased_told T.F__law_rebased_told.kp (b__law_rebased_told T) .nil pass0 (pa_cons (pv 2) (pa_cons (pv 11) (pa_cons (pe_ix (ixL K) (pv 9) (pv 10) (fun _ _ => rfl)) (pa_cons (pe_ix (ixL K) (pv 9) (pe_op op_mod (pe_callTy call_int1 (by rfl) T.g_int (by decide +kernel) (pa_cons (pe_op op_add (pv 10) pe_int) pa_nil)) pe_int) (fun _ _ => rfl)) pa_nil))))))) (pss_one (ps_ret pe_bl))
  pss_nil)
  (pss_one (ps_if (pt_not (pt_val (pe_call (ok__law_carried_told T) (hr.mono (by decide)) rfl T.m__law_carried_told T.F__law_carried_told.kp (b__law_carried_told T) .nil pass0 (pa_cons (pv 2) (pa_cons (pv 4) (pa_cons (pv 11) (pa_cons (pv 8) pa_nil))))))) (pss_one (ps_ret pe_bl))
  pss_nil)))))))))
  (pss_one (ps_ret (pe_call (ok__law_refused T) (hr.mono (by decide)) rfl T.m__law_refused T.F__law_refused.kp (b__law_refused T) .nil pass0 (pa_cons (pv 1) (pa_cons (pv 2) (pa_cons (pv 4) (pa_cons (pe_call (ok__law_by_line T) (hr.mono (by decide)) rfl T.m__law_by_line T.F__law_by_line.kp (b__law_by_line T) .nil pass0 (pa_cons (pv 4) (pa_cons (pv 5) pa_nil))) (pa_cons (pv 5) (pa_cons (pv 6) pa_nil)))))))))))))))))))), ?_⟩
    refine ⟨_, rfl, a, ns, rfl, hs, hl, fun S H1 s1 hS st => ?_⟩
    refine ⟨_, rfl, S, a, rfl, st, fun wv n rows H2 m2 rw2 wo => ?_⟩
    have n10 := wo.2.1
    have n1 := wo.1
    obtain ⟨b, L, xs, rfl, hb, hL0, hz, hrr⟩ := rp_book rw2
    refine ⟨_, rfl, b, _, 0, _, rfl, rfl, seqT (hide_same S H2) hb, rfl, ?_⟩
    refine ⟨_, rfl, .ref b, n, rows, rfl, rp_show rw2, by omega, by omega, fun p3 H3 s3 h3 r3 => ?_⟩
    have m3 := (Mv.refl m2.ok).then s3
    have r3 : Rp K (hide S H3) (.ref p3) (dRowsL (tiesL n rows)) := rp_hideLst m3.ok (free_ne m2.ok h3) (noLs_rows _) r3
    have rw3 := m3.rp rw2
    refine ⟨_, rfl, _, rfl, S, a, n, rfl, m3.ok, by omega, by omega, fun al line H4 m4 tl pm => ?_⟩
    have hL : Ln n line := ⟨pm, by omega⟩
    refine ⟨_, rfl, _, rfl, S, a, n, rfl, m4.ok, n1, by omega, fun cl lot H5 m5 tc lo => ?_⟩
    have llot : lot.length ≤ 10 := by
      have := nodup_le (lot_nd lo) (m := rgI n.toNat) (fun x hx => rgI_mem.mpr (by have := lo.2.2 x hx; omega))
      rw [rgI_length] at this
      omega
    have hlot0 : 0 < lot.length := lot_pos lo
    refine ⟨_, rfl, _, rfl, cl, _, rfl, .inr tc.show.1.1, S, a, _, rfl, m5.ok, by rw [List.length_map]; omega, by rw [List.length_map]; omega, fun dl within H6 m6 td wi => ?_⟩
    rw [List.length_map] at wi
    have m36 := m4.trans (m5.trans m6)
    have rw6 := m36.rp rw3
    refine ⟨_, rfl, _, rfl, S, a, .ref b, n, rows, rfl, m6.ok, rw6, wo, fun ov other H7 m7 ro wo2 => ?_⟩
    have tl7 := (m5.trans (m6.trans m7)).ti tl
    have hll := hL.len
    refine ⟨_, rfl, _, rfl, _, rfl, S, a, al, line, rfl, m7.ok, tl7, by omega, fun hl2 hline H8 m8 th pm8 => ?_⟩
    have hL2 : Ln n hline := ⟨pm8.trans pm, by omega⟩
    refine ⟨_, rfl, _, rfl, S, a, n, rfl, m8.ok, by omega, by omega, fun l3 line3 H9 m9 t9 pm9 => ?_⟩
    have hL3 : Ln n line3 := ⟨pm9, by omega⟩
    refine ⟨_, rfl, n, rfl, .of_le (by decide) (by omega) (by decide) (by omega), fun q10 H10 s10 _ t10 => ⟨(by show 4 ≤ sizeLine; decide), fun D hD => ?_⟩⟩
    rw [rgV_rgI] at t10
    have m10 := (Mv.refl m9.ok).then s10
    have DS := free_ne m10.ok hD
    have m710 := m8.trans (m9.trans m10)
    have t10' : TI K (hide S H10) q10 (rgI n.toNat) := TI.hide m10.ok ⟨t10, by rw [rgI_length]; omega⟩
    have sD := same_upd (o := .lst [V.ref al, .ref hl2, .ref l3, .ref q10]) hD
    have mD := (Mv.refl m10.ok).then sD
    dsimp only [gName, tSeq, tAsg, tRet]
    refine tIf_join (fun σ' H' => σ' = [some (.ref a), some (.ref S), some (.ref b), some (.int n), some (.ref p3), some (.ref al), some (.ref cl), some (.ref dl), some ov, some (.ref D), none, none, none] ∧ Mv S a H10 H' ∧ ∃ (q : Addr) (line4 : List Int), H' D = some (.lst [V.ref al, .ref hl2, .ref l3, .ref q]) ∧ TI K (hide S H') q line4 ∧ Ln n line4) (fun σ' Hb ⟨eσ, mb, q4, line4, hDb, t4, hL4⟩ => ?_) (fun hn => ?_)
    rotate_left
    · refine ⟨_, rfl, S, a, _, rfl, mD.ok, by decide, by decide, fun r H11 r0 r1 m11 => ⟨rfl, _, rfl, ?_⟩⟩
      have mD11 := mD.trans m11
      have hD11 := m11.get DS (upd_same (H := H10) (a := D) (o := .lst [V.ref al, .ref hl2, .ref l3, .ref q10]))
      cases decide (V.int r = V.int 1) with
      | false => exact iteF (hn _ _ ⟨rfl, mD11, q10, rgI n.toNat, hD11, mD11.ti t10', ln_rg (by omega)⟩)
      | true =>
        refine iteT ⟨_, rfl, n, rfl, .of_le (by decide) (by omega) (by decide) (by omega), fun q12 H12 s12 _ t12 => ⟨q12, _, rfl, t12.1, fun q13 H13 s13 _ t13 => ?_⟩⟩
        rw [rgV_rgI, ← List.map_reverse] at t13
        have m13 := mD11.then (s12.trans s13)
        have hD13 := (s12.trans s13) _ _ hD11
        refine ⟨_, rfl, D, _, 3, 3, rfl, rfl, hD13, rfl, ?_⟩
        have m14 := Mv.put (o := .lst [V.ref al, .ref hl2, .ref l3, .ref q13]) m10.ok hD m13
        refine hn _ _ ⟨rfl, m14, q13, (rgI n.toNat).reverse, upd_same, ?_, (ln_rg (by omega)).rev⟩
        have tt : TI K H13 q13 (rgI n.toNat).reverse := ⟨t13, by rw [List.length_reverse, rgI_length]; omega⟩
        have hne : q13 ≠ D := fun e => by
          obtain ⟨o, u, hq, _⟩ := tt.1.2 q13 rfl
          rw [e, hD13] at hq
          cases hq
        have tth := tt.hide m13.ok
        refine ⟨⟨?_, fun c ec => ?_⟩, tth.2⟩
        · rcases tth.1.1 with (h | ⟨o, h⟩) | h
          · exact .inl (.inl (by rw [hide_upd DS, upd_ne hne]; exact h))
          · exact .inl (.inr ⟨o, by rw [hide_upd DS, upd_ne hne]; exact h⟩)
          · exact .inr h
        · obtain ⟨o, u, h1, h2⟩ := tth.1.2 c ec
          cases ec
          exact ⟨o, u, by rw [hide_upd DS, upd_ne hne]; exact h1, h2⟩
    subst eσ
    have m7b := m710.trans mb
    have tls : ∀ j : Nat, j < 4 → ∃ (x : Addr) (l : List Int), [V.ref al, .ref hl2, .ref l3, .ref q4][j]? = some (.ref x) ∧ TI K (hide S Hb) x l ∧ Ln n l := by
      intro j hj
      match j, hj with
      | 0, _ => exact ⟨al, line, rfl, m7b.ti tl7, hL⟩
      | 1, _ => exact ⟨hl2, hline, rfl, (m9.trans (m10.trans mb)).ti th, hL2⟩
      | 2, _ => exact ⟨l3, line3, rfl, (m10.trans mb).ti t9, hL3⟩
      | 3, _ => exact ⟨q4, line4, rfl, t4, hL4⟩
    have m6b := m7.trans m7b
    have rwb := m6b.rp rw6
    have r3b := (m36.trans m6b).rp r3
    have rob := m7b.rp ro
    have tcb := (m6.trans m6b).ti tc
    have tdb := m6b.ti td
    have tlb := m7b.ti tl7
    have eb := mb.ok
    clear m36 m6b m7b m710 tl7 t9 th t10' t10 mD
    refine ⟨4, rfl, by decide, by decide, ?_⟩
    refine for_range (lo := 0) (n := 4) (fun i σ H' => ∃ (v10 v11 v12 : Option V), σ = [some (.ref a), some (.ref S), some (.ref b), some (.int n), some (.ref p3), some (.ref al), some (.ref cl), some (.ref dl), some ov, some (.ref D), v10, v11, v12] ∧ Mv S a Hb H')
      ⟨_, _, _, rfl, Mv.refl eb⟩ (fun i σ H' hi ⟨v10, v11, v12, eσ, m0⟩ => ?_) (fun σ H' ⟨v10, v11, v12, eσ, m0⟩ => ?_)
    · subst eσ
      rw [Int.zero_add]
      have hD0 := m0.get DS hDb
      obtain ⟨x1, l1, g1, t1, hl1⟩ := tls i hi
      obtain ⟨x2, l2, g2, t2, hl2'⟩ := tls ((i + 1) % 4) (Nat.mod_lt _ (by decide))
      obtain ⟨x3, l3', g3, t3, hl3⟩ := tls ((i + 2) % 4) (Nat.mod_lt _ (by decide))
      refine ⟨_, rfl, _, rfl, _, rfl, D, _, _, _, rfl, rfl, SqL.of hD0, at_of (j := i) rfl g1, .ref p3, x1, _, l1, rfl, rp_show (m0.rp r3b), (m0.ti t1).show, fit_in hl1, fun tv H1 s1 rt => ?_⟩
      have rt : Rp K H1 tv (dRows (fitT n rows l1)) := rt
      have m1 := m0.then s1
      have rt1 := rp_hide m1.ok (noL_dRows _) rt
      refine ⟨_, rfl, _, rfl, _, _, rfl, rfl, .inl ⟨_, rfl, _, _, rfl, rfl, (by show (0 : Int) < 4; decide), D, _, _, _, rfl, rfl, SqL.of (m1.get DS hDb), at_of (j := (i + 1) % 4) (by omega) g2, ?_⟩⟩
      -- over
      refine ⟨_, rfl, _, rfl, _, rfl, _, rfl, _, rfl, .ref p3, x2, _, l2, rfl, rp_show (m1.rp r3b), (m1.ti t2).show, fit_in hl2', fun lv H2 s2 rl => ?_⟩
      have rl : Rp K H2 lv (dRows (fitT n rows l2)) := rl
      have m12 := (Mv.refl m1.ok).then s2
      have rl2 := rp_hide m12.ok (noL_dRows _) rl
      have m2 := m1.trans m12
      refine ⟨_, rfl, _, rfl, S, a, n, rfl, m2.ok, by omega, by omega, fun x H3 x0 x1' m23 => ?_⟩
      have m3 := m2.trans m23
      refine ⟨.ref b, .ref p3, tv, lv, x, n, rows, l1, l2, rfl, rp_show (m3.rp rwb), rp_show (m3.rp r3b), rp_show ((m12.trans m23).rp rt1), rp_show (m23.rp rl2), wo, hl1, hl2', x0, x1', fun H4 s4 => ⟨_, rfl, ?_⟩⟩
      have m4 := m3.then s4
      have rt4 := (m12.trans (m23.then s4)).rp rt1
      clear m12 m23 rl2 rl rt
      -- kept
      refine iteF ⟨_, rfl, _, rfl, _, rfl, D, _, _, _, rfl, rfl, SqL.of (m4.get DS hDb), at_of (j := i) rfl g1, _, rfl, _, rfl, _, rfl, .ref b, x1, x2, cl, dl, n, rows, l1, l2, lot, within, rfl, rp_show (m4.rp rwb), (m4.ti t1).show, (m4.ti t2).show, (m4.ti tcb).show, (m4.ti tdb).show, wo, hl1, hl2', lo, wi, fun H5 s5 => ⟨_, rfl, ?_⟩⟩
      have m5 := m4.then s5
      have rt5 := ((Mv.refl m4.ok).then s5).rp rt4
      -- mirrored
      refine iteF ⟨_, rfl, _, rfl, _, rfl, _, rfl, D, _, _, _, rfl, rfl, SqL.of (m5.get DS hDb), at_of (j := i) rfl g1, .ref b, tv, x1, n, rows, l1, rfl, rp_show (m5.rp rwb), rp_show rt5, (m5.ti t1).show, wo, hl1, fun H6 s6 => ⟨_, rfl, ?_⟩⟩
      have m6 := m5.then s6
      have rt6 := ((Mv.refl m5.ok).then s6).rp rt5
      -- rebased
      refine iteF ⟨_, rfl, _, rfl, _, rfl, _, rfl, D, _, _, _, rfl, rfl, SqL.of (m6.get DS hDb), at_of (j := i) rfl g1, _, rfl, _, rfl, _, _, rfl, rfl, .inl ⟨_, rfl, _, _, rfl, rfl, (by show (0 : Int) < 4; decide), D, _, _, _, rfl, rfl, SqL.of (m6.get DS hDb), at_of (j := (i + 2) % 4) (by omega) g3, ?_⟩⟩
      refine ⟨.ref b, tv, x1, x3, n, rows, l1, l3', rfl, rp_show (m6.rp rwb), rp_show rt6, (m6.ti t1).show, (m6.ti t3).show, wo, hl1, hl3, fun H7 s7 => ⟨_, rfl, ?_⟩⟩
      have m7 := m6.then s7
      have rt7 := ((Mv.refl m6.ok).then s7).rp rt6
      -- carried
      refine iteF ⟨_, rfl, _, rfl, _, rfl, _, rfl, .ref b, .ref p3, tv, ov, n, rows, other, l1, rfl, rp_show (m7.rp rwb), rp_show (m7.rp r3b), rp_show rt7, rp_show (m7.rp rob), wo, wo2, hl1, fun H8 s8 => ⟨_, rfl, ?_⟩⟩
      exact iteF ⟨_, _, _, rfl, m7.then s8⟩
    · subst eσ
      refine ⟨_, rfl, _, rfl, _, rfl, _, rfl, _, rfl, .ref p3, al, _, line, rfl, rp_show (m0.rp r3b), (m0.ti tlb).show, fit_in hL, fun tv H1 s1 rt => ?_⟩
      have rt : Rp K H1 tv (dRows (fitT n rows line)) := rt
      have m1 := m0.then s1
      exact ⟨_, rfl, _, rfl, S, a, .ref b, .ref p3, tv, al, cl, n, rows, line, lot, rfl, m1.ok, m1.rp rwb, m1.rp r3b, rp_hide m1.ok (noL_dRows _) rt, m1.ti tlb, m1.ti tcb, wo, hL, lo, k⟩
end
end LK
namespace LK
open PySem PySem.Spec PyProof.Rows L2
/-- what is found of a def at the top -/
theorem dfn {K : PySem.W.Frag} {h : Heap} {mg : Str → Option Value} (X : K.In h) (G : h.Ns mainGlobals mg) {x : Str} {st : Stmt} {f : Addr} {oc : Value} {od an : Option Addr} {sl : Array (Option Value)} {kV dc pm cd ct : Value}
    (a : PySem.W.nsIn K mainGlobals x = some (some (.ref f))) (l : K.lookup f = some ⟨oc, od, .func (PySem.W.fnOf x x (defArgs st) (defBody st) (defScope st) .none kV dc pm an cd ct), sl⟩) (c : PySem.W.codeIn K cd x = true) (k : PySem.W.keepIn K (.ref f) = true) :
    ∃ f fd, mg x = some (.ref f) ∧ Fun K x x st f fd := ⟨f, _, PySem.W.mg_of X G a, fun_mk (st := st) l c k⟩
theorem exm_self {K : PySem.W.Frag} {S : Addr} (h1 : PySem.W.subIn K (.ref S) (.type "BaseException") = some true) (h2 : PySem.W.isClsIn K S = true) (h3 : PySem.W.typeIn K (.ref S) = some (.type "type")) (h4 : PySem.W.subIn K (.ref S) (.ref S) = some true) :
    PySem.W.exmOne K (.ref S) (.ref S) = some true := by
  have e1 : (PySem.W.subIn K (.ref S) (.type "BaseException") == some true) = true := by rw [h1] <;> rfl
  have e2 : ((PySem.W.clsIn K S).isSome && PySem.W.typeIn K (.ref S) == some (.type "type")) = true := by
    have h2' : (PySem.W.clsIn K S).isSome = true := h2
    rw [h2', h3] <;> rfl
  show (if (PySem.W.subIn K (.ref S) (.type "BaseException") == some true) = true then (if ((PySem.W.clsIn K S).isSome && PySem.W.typeIn K (.ref S) == some (.type "type")) = true then PySem.W.subIn K (.ref S) (.ref S) else none) else none) = some true
  rw [if_pos e1, if_pos e2]
  exact h4
/-- what is found of an exception class with its own __init__(self, word, at) -/
structure ExFact (K : PySem.W.Frag) (mg : Str → Option Value) (n q : Str) (st : Stmt) (C f : Addr) (fd : FuncData) : Prop where
  ox : OexC K C
  m : mg n = some (.ref C)
  i : PySem.W.findIn K (.ref C) "__init__" = some (some (.ref f))
  t : PySem.W.typeIn K (.ref f) = some (.type "function")
  F : Fun K "__init__" q st f fd
  nw : PySem.W.findIn K (.ref C) "word" = some none
  na : PySem.W.findIn K (.ref C) "at" = some none
  x : XfC K C
  e : PySem.W.exmOne K (.ref C) (.ref C) = some true
theorem exf {K : PySem.W.Frag} {h : Heap} {mg : Str → Option Value} (X : K.In h) (G : h.Ns mainGlobals mg) {n q : Str} {st : Stmt} {C f : Addr} {nm qn : Str} {N : Addr} {bs bm : List Value} {sn : List Str} {sub : List Value} {ab : Bool} {col : Option Bool} {dd : Option Addr} {m0 m1 m2 m3 m5 : Option Value}
    {oc : Value} {od an : Option Addr} {sl : Array (Option Value)} {kV dc pm cd ct : Value}
    (aC : PySem.W.nsIn K mainGlobals n = some (some (.ref C)))
    (xL : K.lookup C = some (excClassObj nm qn C N bs bm true sn sub ab col dd m0 m1 m2 m3 m5 "ValueError.__new__")) (rv : PySem.HandSPX.refsVE bm = true)
    (sa : PySem.W.findIn K (.ref C) "__setattr__" = some (some (.builtin "object.__setattr__"))) (ga : PySem.W.findIn K (.ref C) "__getattribute__" = some (some (.builtin "BaseException.__getattribute__"))) (gg : PySem.W.findIn K (.ref C) "__getattr__" = some none)
    (nw : PySem.W.findIn K (.ref C) "word" = some none) (na : PySem.W.findIn K (.ref C) "at" = some none)
    (a1 : PySem.W.findIn K (.ref C) "__init__" = some (some (.ref f))) (t1 : PySem.W.typeIn K (.ref f) = some (.type "function"))
    (l1 : K.lookup f = some ⟨oc, od, .func (PySem.W.fnOf "__init__" q (defArgs st) (defBody st) (defScope st) .none kV dc pm an cd ct), sl⟩) (c1 : PySem.W.codeIn K cd q = true) (k1 : PySem.W.keepIn K (.ref f) = true)
    (kC : PySem.W.keepIn K (.ref C) = true) (eC : PySem.W.subIn K (.ref C) (.type "BaseException") = some true) (tC : PySem.W.typeIn K (.ref C) = some (.type "type")) (hC : PySem.W.hasDictIn K C = true) (iC : PySem.W.isClsIn K C = true) (sC : PySem.W.subIn K (.ref C) (.ref C) = some true) :
    ∃ C f fd, ExFact K mg n q st C f fd :=
  ⟨C, f, _, ⟨⟨nm, qn, N, bs, bm, sn, sub, ab, col, dd, m0, m1, m2, m3, m5, xL, rv⟩, sa, eC, tC, kC⟩, PySem.W.mg_of X G aC, a1, t1, fun_mk (st := st) l1 c1 k1, nw, na, ⟨ga, gg, eC, hC⟩, exm_self eC iC tC sC⟩
theorem kit_ref {K : PySem.W.Frag} {D C : Addr} {b : Bool} (h0 : PySem.W.subIn K (.ref D) (.ref D) = some true) (h1 : PySem.W.isClsIn K C = true) (h2 : PySem.W.typeIn K (.ref C) = some (.type "type")) (h3 : PySem.W.subIn K (.ref D) (.ref C) = some b) : PySem.W.kitOne K (.ref D) (.ref C) = some b := by
  unfold PySem.W.kitOne
  by_cases e : ((Value.ref D == Value.ref C) = true)
  · rw [if_pos e]
    have : D = C := Value.ref.inj (beq_iff_eq.mp e)
    subst this
    rw [h0] at h3
    exact h3
  · rw [if_neg e]
    have e2 : ((PySem.W.clsIn K C).isSome && PySem.W.typeIn K (.ref C) == some (.type "type")) = true := by
      have h1' : (PySem.W.clsIn K C).isSome = true := h1
      rw [h1', h2] <;> rfl
    show (if ((PySem.W.clsIn K C).isSome && PySem.W.typeIn K (.ref C) == some (.type "type")) = true then PySem.W.subIn K (.ref D) (.ref C) else none) = some b
    rw [if_pos e2]
    exact h3
/-- what is found of NotUsable beside: its kin -/
structure ExKin (K : PySem.W.Frag) (mg : Str → Option Value) (C CB CI : Addr) : Prop where
  xc : ExcC K C
  mB : mg "BookError" = some (.ref CB)
  mI : mg "InRound" = some (.ref CI)
  qB : PySem.W.kitOne K (.ref C) (.ref CB) = some true
  qI : PySem.W.kitOne K (.ref C) (.ref CI) = some false
theorem exk {K : PySem.W.Frag} {h : Heap} {mg : Str → Option Value} (X : K.In h) (G : h.Ns mainGlobals mg) {C CB CI : Addr} (aC : PySem.W.nsIn K mainGlobals "NotUsable" = some (some (.ref C))) (aB : PySem.W.nsIn K mainGlobals "BookError" = some (some (.ref CB))) (aI : PySem.W.nsIn K mainGlobals "InRound" = some (some (.ref CI)))
    (ga : PySem.W.findIn K (.ref C) "__getattribute__" = some (some (.builtin "BaseException.__getattribute__"))) (gg : PySem.W.findIn K (.ref C) "__getattr__" = some none) (eC : PySem.W.subIn K (.ref C) (.type "BaseException") = some true) (hC : PySem.W.hasDictIn K C = true)
    (ha : PySem.W.findIn K (.ref C) "__class__" = some (some (.builtin "object.__class__"))) (hn : PySem.W.specialIn K (.builtin "object.__class__") "__get__" = some (some (.builtin "getset_descriptor.__get__"))) (ht : PySem.W.takesIn K (.builtin "object.__class__") = some true) (hm : PySem.W.mroIn K C (.type "object") = some true)
    (sC : PySem.W.subIn K (.ref C) (.ref C) = some true) (iB : PySem.W.isClsIn K CB = true) (tB : PySem.W.typeIn K (.ref CB) = some (.type "type")) (sB : PySem.W.subIn K (.ref C) (.ref CB) = some true) (iI : PySem.W.isClsIn K CI = true) (tI : PySem.W.typeIn K (.ref CI) = some (.type "type")) (sI : PySem.W.subIn K (.ref C) (.ref CI) = some false) :
    ∃ C CB CI, mg "NotUsable" = some (.ref C) ∧ ExKin K mg C CB CI :=
  ⟨C, CB, CI, PySem.W.mg_of X G aC, ⟨ga, gg, eC, hC, ha, hn, ht, hm⟩, PySem.W.mg_of X G aB, PySem.W.mg_of X G aI, kit_ref sC iB tB sB, kit_ref sC iI tI sI⟩
theorem walk {l : PySem.W.OpenLaw} {q : Program} {loose : List Str} {XP : (Str → Option Value) → Heap → Prop} {YP : World → Heap → Prop} {d : DefRec} {K : Params → PySem.W.Frag} (hn : l.most = some 63) (hdf : d.params.defaults = [])
    (hY : ∀ (w : World) (h : Heap), YP w h → (K w.params).In h)
    (F : ∀ (w : World) (mg : Str → Option Value) (fa : Addr) (h : Heap), (K w.params).In h → h.Ns mainGlobals mg → mg d.name = some (.ref fa) →
      ∃ fd : FuncData, (∀ (s : Shared) (u : Value), BindsTo s fd ⟨[u], []⟩ [("_law_script", u)]) ∧ ∀ base : Heap, (K w.params).In base → base.Ns mainGlobals mg → FnOk l.prog w (K w.params) mg base CX0 14 fa fd ["_law_script"] (spLaw (K w.params))) :
    PySem.W.WalkO q loose XP YP l.row.toRowW d [] (fun f vs => PySem.call f vs) :=
  L2.walk_of (n := 63) (k := 14) (x := "_law_script") (CX := fun _ => CX0) (sp := fun w => spLaw (K w.params)) hn (by decide) hdf ⟨rfl, by decide, by decide⟩ hY F (fun _ _ a ns hl _ hS => ⟨a, ns, rfl, hS, hl, fun _ => rfl⟩) fun _ _ _ _ _ z => z
theorem all_mk {P : Program} {w : World} {K : PySem.W.Frag} {mg : Str → Option Value} {fa : Addr} (hfa : mg ("law" : Str) = some (.ref fa))
    (h1 : ∃ f fd, mg ("is_integer" : Str) = some (.ref f) ∧ Fun K "is_integer" "is_integer" s_is_integer f fd)
    (h2 : ∃ f fd, mg ("is_number" : Str) = some (.ref f) ∧ Fun K "is_number" "is_number" s_is_number f fd)
    (h3 : ∃ f fd, mg ("is_below" : Str) = some (.ref f) ∧ Fun K "is_below" "is_below" s_is_below f fd)
    (h4 : ∃ f fd, mg ("is_rising" : Str) = some (.ref f) ∧ Fun K "is_rising" "is_rising" s_is_rising f fd)
    (h5 : ∃ f fd, mg ("are_below" : Str) = some (.ref f) ∧ Fun K "are_below" "are_below" s_are_below f fd)
    (h6 : ∃ f fd, mg ("are_unlike_below" : Str) = some (.ref f) ∧ Fun K "are_unlike_below" "are_unlike_below" s_are_unlike_below f fd)
    (h7 : ∃ f fd, mg ("is_lot" : Str) = some (.ref f) ∧ Fun K "is_lot" "is_lot" s_is_lot f fd)
    (h8 : ∃ f fd, mg ("is_line" : Str) = some (.ref f) ∧ Fun K "is_line" "is_line" s_is_line f fd)
    (h10 : ∃ f fd, mg ("is_listed" : Str) = some (.ref f) ∧ Fun K "is_listed" "is_listed" s_is_listed f fd)
    (h11 : ∃ f fd, mg ("is_book" : Str) = some (.ref f) ∧ Fun K "is_book" "is_book" s_is_book f fd)
    (h12 : ∃ f fd, mg ("are_tied" : Str) = some (.ref f) ∧ Fun K "are_tied" "are_tied" s_are_tied f fd)
    (h13 : ∃ f fd, mg ("is_thing" : Str) = some (.ref f) ∧ Fun K "is_thing" "is_thing" s_is_thing f fd)
    (h14 : ∃ f fd, mg ("is_tie" : Str) = some (.ref f) ∧ Fun K "is_tie" "is_tie" s_is_tie f fd)
    (h20 : ∃ f fd, mg ("need" : Str) = some (.ref f) ∧ Fun K "need" "need" s_need f fd)
    (h22 : ∃ f fd, mg ("kept_to" : Str) = some (.ref f) ∧ Fun K "kept_to" "kept_to" s_kept_to f fd)
    (h23 : ∃ f fd, mg ("renumbered" : Str) = some (.ref f) ∧ Fun K "renumbered" "renumbered" s_renumbered f fd)
    (h24 : ∃ f fd, mg ("rebased" : Str) = some (.ref f) ∧ Fun K "rebased" "rebased" s_rebased f fd)
    (h25 : ∃ f fd, mg ("mirrored" : Str) = some (.ref f) ∧ Fun K "mirrored" "mirrored" s_mirrored f fd)
    (h27 : ∃ f fd, mg ("mask_of" : Str) = some (.ref f) ∧ Fun K "mask_of" "mask_of" s_mask_of f fd)
    (h28 : ∃ f fd, mg ("things_of" : Str) = some (.ref f) ∧ Fun K "things_of" "things_of" s_things_of f fd)
    (h29 : ∃ f fd, mg ("first_of" : Str) = some (.ref f) ∧ Fun K "first_of" "first_of" s_first_of f fd)
    (h30 : ∃ f fd, mg ("near_masks" : Str) = some (.ref f) ∧ Fun K "near_masks" "near_masks" s_near_masks f fd)
    (h31 : ∃ f fd, mg ("leading_masks" : Str) = some (.ref f) ∧ Fun K "leading_masks" "leading_masks" s_leading_masks f fd)
    (h32 : ∃ f fd, mg ("way_in" : Str) = some (.ref f) ∧ Fun K "way_in" "way_in" s_way_in f fd)
    (h33 : ∃ f fd, mg ("ahead_behind" : Str) = some (.ref f) ∧ Fun K "ahead_behind" "ahead_behind" s_ahead_behind f fd)
    (h34 : ∃ f fd, mg ("detour" : Str) = some (.ref f) ∧ Fun K "detour" "detour" s_detour f fd)
    (h35 : ∃ f fd, mg ("blind_ends" : Str) = some (.ref f) ∧ Fun K "blind_ends" "blind_ends" s_blind_ends f fd)
    (h36 : ∃ f fd, mg ("round_in" : Str) = some (.ref f) ∧ Fun K "round_in" "round_in" s_round_in f fd)
    (h37 : ∃ f fd, mg ("line_in" : Str) = some (.ref f) ∧ Fun K "line_in" "line_in" s_line_in f fd)
    (h39 : ∃ f fd, mg ("ties_of" : Str) = some (.ref f) ∧ Fun K "ties_of" "ties_of" s_ties_of f fd)
    (h41 : ∃ f fd, mg ("is_ties" : Str) = some (.ref f) ∧ Fun K "is_ties" "is_ties" s_is_ties f fd)
    (h42 : ∃ f fd, mg ("is_sorting" : Str) = some (.ref f) ∧ Fun K "is_sorting" "is_sorting" s_is_sorting f fd)
    (h44 : ∃ f fd, mg ("fitted" : Str) = some (.ref f) ∧ Fun K "fitted" "fitted" s_fitted f fd)
    (h45 : ∃ f fd, mg ("sorting_of" : Str) = some (.ref f) ∧ Fun K "sorting_of" "sorting_of" s_sorting_of f fd)
    (h46 : ∃ f fd, mg ("line_of" : Str) = some (.ref f) ∧ Fun K "line_of" "line_of" s_line_of f fd)
    (h48 : ∃ f fd, mg ("turned_over" : Str) = some (.ref f) ∧ Fun K "turned_over" "turned_over" s_turned_over f fd)
    (h49 : ∃ f fd, mg ("restricted" : Str) = some (.ref f) ∧ Fun K "restricted" "restricted" s_restricted f fd)
    (h50 : ∃ f fd, mg ("mirrored_sorting" : Str) = some (.ref f) ∧ Fun K "mirrored_sorting" "mirrored_sorting" s_mirrored_sorting f fd)
    (h51 : ∃ f fd, mg ("rebased_sorting" : Str) = some (.ref f) ∧ Fun K "rebased_sorting" "rebased_sorting" s_rebased_sorting f fd)
    (h52 : ∃ f fd, mg ("carried" : Str) = some (.ref f) ∧ Fun K "carried" "carried" s_carried f fd)
    (h54 : ∃ f fd, mg ("are_turned" : Str) = some (.ref f) ∧ Fun K "are_turned" "are_turned" s_are_turned f fd)
    (h55 : ∃ f fd, mg ("is_beneath" : Str) = some (.ref f) ∧ Fun K "is_beneath" "is_beneath" s_is_beneath f fd)
    (h57 : ∃ f fd, mg ("put_at" : Str) = some (.ref f) ∧ Fun K "put_at" "put_at" s_put_at f fd)
    (h58 : ∃ f fd, mg ("put_first" : Str) = some (.ref f) ∧ Fun K "put_first" "put_first" s_put_first f fd)
    (h59 : ∃ f fd, mg ("put_last" : Str) = some (.ref f) ∧ Fun K "put_last" "put_last" s_put_last f fd)
    (h61 : ∃ f fd, mg ("order_in" : Str) = some (.ref f) ∧ Fun K "order_in" "order_in" s_order_in f fd)
    (h62 : ∃ f fd, mg ("orders_in" : Str) = some (.ref f) ∧ Fun K "orders_in" "orders_in" s_orders_in f fd)
    (h63 : ∃ f fd, mg ("own_orders" : Str) = some (.ref f) ∧ Fun K "own_orders" "own_orders" s_own_orders f fd)
    (h65 : ∃ f fd, mg ("open_ties" : Str) = some (.ref f) ∧ Fun K "open_ties" "open_ties" s_open_ties f fd)
    (h66 : ∃ f fd, mg ("falls_of" : Str) = some (.ref f) ∧ Fun K "falls_of" "falls_of" s_falls_of f fd)
    (h67 : ∃ f fd, mg ("rises_of" : Str) = some (.ref f) ∧ Fun K "rises_of" "rises_of" s_rises_of f fd)
    (h69 : ∃ f fd, mg ("_law_tape" : Str) = some (.ref f) ∧ Fun K "_law_tape" "_law_tape" s__law_tape f fd)
    (h70 : ∃ f fd, mg ("_law_draw" : Str) = some (.ref f) ∧ Fun K "_law_draw" "_law_draw" s__law_draw f fd)
    (h71 : ∃ f fd, mg ("_law_line" : Str) = some (.ref f) ∧ Fun K "_law_line" "_law_line" s__law_line f fd)
    (h72 : ∃ f fd, mg ("_law_parts" : Str) = some (.ref f) ∧ Fun K "_law_parts" "_law_parts" s__law_parts f fd)
    (h73 : ∃ f fd, mg ("_law_book" : Str) = some (.ref f) ∧ Fun K "_law_book" "_law_book" s__law_book f fd)
    (h74 : ∃ f fd, mg ("_law_other" : Str) = some (.ref f) ∧ Fun K "_law_other" "_law_other" s__law_other f fd)
    (h75 : ∃ f fd, mg ("_law_ties" : Str) = some (.ref f) ∧ Fun K "_law_ties" "_law_ties" s__law_ties f fd)
    (h76 : ∃ f fd, mg ("_law_by_line" : Str) = some (.ref f) ∧ Fun K "_law_by_line" "_law_by_line" s__law_by_line f fd)
    (h77 : ∃ f fd, mg ("_law_least_line" : Str) = some (.ref f) ∧ Fun K "_law_least_line" "_law_least_line" s__law_least_line f fd)
    (h78 : ∃ f fd, mg ("_law_kept_book" : Str) = some (.ref f) ∧ Fun K "_law_kept_book" "_law_kept_book" s__law_kept_book f fd)
    (h79 : ∃ f fd, mg ("_law_named" : Str) = some (.ref f) ∧ Fun K "_law_named" "_law_named" s__law_named f fd)
    (h80 : ∃ f fd, mg ("_law_integer" : Str) = some (.ref f) ∧ Fun K "_law_integer" "_law_integer" s__law_integer f fd)
    (h81 : ∃ f fd, mg ("_law_same" : Str) = some (.ref f) ∧ Fun K "_law_same" "_law_same" s__law_same f fd)
    (h82 : ∃ f fd, mg ("_law_higher" : Str) = some (.ref f) ∧ Fun K "_law_higher" "_law_higher" s__law_higher f fd)
    (h83 : ∃ f fd, mg ("_law_lot" : Str) = some (.ref f) ∧ Fun K "_law_lot" "_law_lot" s__law_lot f fd)
    (h84 : ∃ f fd, mg ("_law_over_told" : Str) = some (.ref f) ∧ Fun K "_law_over_told" "_law_over_told" s__law_over_told f fd)
    (h85 : ∃ f fd, mg ("_law_kept_told" : Str) = some (.ref f) ∧ Fun K "_law_kept_told" "_law_kept_told" s__law_kept_told f fd)
    (h86 : ∃ f fd, mg ("_law_mirrored_told" : Str) = some (.ref f) ∧ Fun K "_law_mirrored_told" "_law_mirrored_told" s__law_mirrored_told f fd)
    (h87 : ∃ f fd, mg ("_law_rebased_told" : Str) = some (.ref f) ∧ Fun K "_law_rebased_told" "_law_rebased_told" s__law_rebased_told f fd)
    (h88 : ∃ f fd, mg ("_law_carried_told" : Str) = some (.ref f) ∧ Fun K "_law_carried_told" "_law_carried_told" s__law_carried_told f fd)
    (h89 : ∃ f fd, mg ("_law_asked" : Str) = some (.ref f) ∧ Fun K "_law_asked" "_law_asked" s__law_asked f fd)
    (h90 : ∃ f fd, mg ("_law_refusal" : Str) = some (.ref f) ∧ Fun K "_law_refusal" "_law_refusal" s__law_refusal f fd)
    (h91 : ∃ f fd, mg ("_law_refused" : Str) = some (.ref f) ∧ Fun K "_law_refused" "_law_refused" s__law_refused f fd)
    (h92 : ∃ f fd, mg ("law" : Str) = some (.ref f) ∧ Fun K "law" "law" s_law f fd)
    (c18 : ∃ C f fd, ExFact K mg "NotUsable" "NotUsable.__init__" (inClass (topS 18) 0) C f fd)
    (kin : ∃ C CB CI, mg "NotUsable" = some (.ref C) ∧ ExKin K mg C CB CI)
    (g_isinstance : mg ("isinstance" : Str) = none)
    (g_int : mg ("int" : Str) = none)
    (g_bool : mg ("bool" : Str) = none)
    (g_tuple : mg ("tuple" : Str) = none)
    (g_str : mg ("str" : Str) = none)
    (g_list : mg ("list" : Str) = none)
    (g_len : mg ("len" : Str) = none)
    (g_all : mg ("all" : Str) = none)
    (g_any : mg ("any" : Str) = none)
    (g_set : mg ("set" : Str) = none)
    (g_sorted : mg ("sorted" : Str) = none)
    (g_range : mg ("range" : Str) = none)
    (g_enumerate : mg ("enumerate" : Str) = none)
    (g_sum : mg ("sum" : Str) = none)
    (g_min : mg ("min" : Str) = none)
    (g_max : mg ("max" : Str) = none)
    (g_abs : mg ("abs" : Str) = none)
    (g_reversed : mg ("reversed" : Str) = none) :
    ∃ fd : FuncData, (∀ (s : Shared) (u : Value), BindsTo s fd ⟨[u], []⟩ [("_law_script", u)]) ∧ ∀ base : Heap, FnOk P w K mg base CX0 14 fa fd ["_law_script"] (spLaw K) := by
  obtain ⟨f1, d1, m1, F1⟩ := h1
  obtain ⟨f2, d2, m2, F2⟩ := h2
  obtain ⟨f3, d3, m3, F3⟩ := h3
  obtain ⟨f4, d4, m4, F4⟩ := h4
  obtain ⟨f5, d5, m5, F5⟩ := h5
  obtain ⟨f6, d6, m6, F6⟩ := h6
  obtain ⟨f7, d7, m7, F7⟩ := h7
  obtain ⟨f8, d8, m8, F8⟩ := h8
  obtain ⟨f10, d10, m10, F10⟩ := h10
  obtain ⟨f11, d11, m11, F11⟩ := h11
  obtain ⟨f12, d12, m12, F12⟩ := h12
  obtain ⟨f13, d13, m13, F13⟩ := h13
  obtain ⟨f14, d14, m14, F14⟩ := h14
  obtain ⟨f20, d20, m20, F20⟩ := h20
  obtain ⟨f22, d22, m22, F22⟩ := h22
  obtain ⟨f23, d23, m23, F23⟩ := h23
  obtain ⟨f24, d24, m24, F24⟩ := h24
  obtain ⟨f25, d25, m25, F25⟩ := h25
  obtain ⟨f27, d27, m27, F27⟩ := h27
  obtain ⟨f28, d28, m28, F28⟩ := h28
  obtain ⟨f29, d29, m29, F29⟩ := h29
  obtain ⟨f30, d30, m30, F30⟩ := h30
  obtain ⟨f31, d31, m31, F31⟩ := h31
  obtain ⟨f32, d32, m32, F32⟩ := h32
  obtain ⟨f33, d33, m33, F33⟩ := h33
  obtain ⟨f34, d34, m34, F34⟩ := h34
  obtain ⟨f35, d35, m35, F35⟩ := h35
  obtain ⟨f36, d36, m36, F36⟩ := h36
  obtain ⟨f37, d37, m37, F37⟩ := h37
  obtain ⟨f39, d39, m39, F39⟩ := h39
  obtain ⟨f41, d41, m41, F41⟩ := h41
  obtain ⟨f42, d42, m42, F42⟩ := h42
  obtain ⟨f44, d44, m44, F44⟩ := h44
  obtain ⟨f45, d45, m45, F45⟩ := h45
  obtain ⟨f46, d46, m46, F46⟩ := h46
  obtain ⟨f48, d48, m48, F48⟩ := h48
  obtain ⟨f49, d49, m49, F49⟩ := h49
  obtain ⟨f50, d50, m50, F50⟩ := h50
  obtain ⟨f51, d51, m51, F51⟩ := h51
  obtain ⟨f52, d52, m52, F52⟩ := h52
  obtain ⟨f54, d54, m54, F54⟩ := h54
  obtain ⟨f55, d55, m55, F55⟩ := h55
  obtain ⟨f57, d57, m57, F57⟩ := h57
  obtain ⟨f58, d58, m58, F58⟩ := h58
  obtain ⟨f59, d59, m59, F59⟩ := h59
  obtain ⟨f61, d61, m61, F61⟩ := h61
  obtain ⟨f62, d62, m62, F62⟩ := h62
  obtain ⟨f63, d63, m63, F63⟩ := h63
  obtain ⟨f65, d65, m65, F65⟩ := h65
  obtain ⟨f66, d66, m66, F66⟩ := h66
  obtain ⟨f67, d67, m67, F67⟩ := h67
  obtain ⟨f69, d69, m69, F69⟩ := h69
  obtain ⟨f70, d70, m70, F70⟩ := h70
  obtain ⟨f71, d71, m71, F71⟩ := h71
  obtain ⟨f72, d72, m72, F72⟩ := h72
  obtain ⟨f73, d73, m73, F73⟩ := h73
  obtain ⟨f74, d74, m74, F74⟩ := h74
  obtain ⟨f75, d75, m75, F75⟩ := h75
  obtain ⟨f76, d76, m76, F76⟩ := h76
  obtain ⟨f77, d77, m77, F77⟩ := h77
  obtain ⟨f78, d78, m78, F78⟩ := h78
  obtain ⟨f79, d79, m79, F79⟩ := h79
  obtain ⟨f80, d80, m80, F80⟩ := h80
  obtain ⟨f81, d81, m81, F81⟩ := h81
  obtain ⟨f82, d82, m82, F82⟩ := h82
  obtain ⟨f83, d83, m83, F83⟩ := h83
  obtain ⟨f84, d84, m84, F84⟩ := h84
  obtain ⟨f85, d85, m85, F85⟩ := h85
  obtain ⟨f86, d86, m86, F86⟩ := h86
  obtain ⟨f87, d87, m87, F87⟩ := h87
  obtain ⟨f88, d88, m88, F88⟩ := h88
  obtain ⟨f89, d89, m89, F89⟩ := h89
  obtain ⟨f90, d90, m90, F90⟩ := h90
  obtain ⟨f91, d91, m91, F91⟩ := h91
  obtain ⟨f92, d92, m92, F92⟩ := h92
  obtain ⟨f18, f1018, d1018, E18⟩ := c18
  obtain ⟨C0, f17, f19, mN, KN⟩ := kin
  have eN : f18 = C0 := by
    have := E18.m.symm.trans mN
    cases this
    rfl
  subst eN
  have T : Txt K mg (fun i => if i = 1018 then f1018 else ([0, f1, f2, f3, f4, f5, f6, f7, f8, 0, f10, f11, f12, f13, f14, 0, 0, f17, f18, f19, f20, 0, f22, f23, f24, f25, 0, f27, f28, f29, f30, f31, f32, f33, f34, f35, f36, f37, 0, f39, 0, f41, f42, 0, f44, f45, f46, 0, f48, f49, f50, f51, f52, 0, f54, f55, 0, f57, f58, f59, 0, f61, f62, f63, 0, f65, f66, f67, 0, f69, f70, f71, f72, f73, f74, f75, f76, f77, f78, f79, f80, f81, f82, f83, f84, f85, f86, f87, f88, f89, f90, f91, f92].getD i 0)) (fun i => if i = 1018 then d1018 else ([d92, d1, d2, d3, d4, d5, d6, d7, d8, d92, d10, d11, d12, d13, d14, d92, d92, d92, d92, d92, d20, d92, d22, d23, d24, d25, d92, d27, d28, d29, d30, d31, d32, d33, d34, d35, d36, d37, d92, d39, d92, d41, d42, d92, d44, d45, d46, d92, d48, d49, d50, d51, d52, d92, d54, d55, d92, d57, d58, d59, d92, d61, d62, d63, d92, d65, d66, d67, d92, d69, d70, d71, d72, d73, d74, d75, d76, d77, d78, d79, d80, d81, d82, d83, d84, d85, d86, d87, d88, d89, d90, d91, d92].getD i d92)) := {
    g_isinstance := g_isinstance
    g_int := g_int
    g_bool := g_bool
    g_tuple := g_tuple
    g_str := g_str
    g_list := g_list
    g_len := g_len
    g_all := g_all
    g_any := g_any
    g_set := g_set
    g_sorted := g_sorted
    g_range := g_range
    g_enumerate := g_enumerate
    g_sum := g_sum
    g_min := g_min
    g_max := g_max
    g_abs := g_abs
    g_reversed := g_reversed
    m_is_integer := m1
    F_is_integer := F1
    m_is_number := m2
    F_is_number := F2
    m_is_below := m3
    F_is_below := F3
    m_is_rising := m4
    F_is_rising := F4
    m_are_below := m5
    F_are_below := F5
    m_are_unlike_below := m6
    F_are_unlike_below := F6
    m_is_lot := m7
    F_is_lot := F7
    m_is_line := m8
    F_is_line := F8
    m_is_listed := m10
    F_is_listed := F10
    m_is_book := m11
    F_is_book := F11
    m_are_tied := m12
    F_are_tied := F12
    m_is_thing := m13
    F_is_thing := F13
    m_is_tie := m14
    F_is_tie := F14
    m_need := m20
    F_need := F20
    m_kept_to := m22
    F_kept_to := F22
    m_renumbered := m23
    F_renumbered := F23
    m_rebased := m24
    F_rebased := F24
    m_mirrored := m25
    F_mirrored := F25
    m_mask_of := m27
    F_mask_of := F27
    m_things_of := m28
    F_things_of := F28
    m_first_of := m29
    F_first_of := F29
    m_near_masks := m30
    F_near_masks := F30
    m_leading_masks := m31
    F_leading_masks := F31
    m_way_in := m32
    F_way_in := F32
    m_ahead_behind := m33
    F_ahead_behind := F33
    m_detour := m34
    F_detour := F34
    m_blind_ends := m35
    F_blind_ends := F35
    m_round_in := m36
    F_round_in := F36
    m_line_in := m37
    F_line_in := F37
    m_ties_of := m39
    F_ties_of := F39
    m_is_ties := m41
    F_is_ties := F41
    m_is_sorting := m42
    F_is_sorting := F42
    m_fitted := m44
    F_fitted := F44
    m_sorting_of := m45
    F_sorting_of := F45
    m_line_of := m46
    F_line_of := F46
    m_turned_over := m48
    F_turned_over := F48
    m_restricted := m49
    F_restricted := F49
    m_mirrored_sorting := m50
    F_mirrored_sorting := F50
    m_rebased_sorting := m51
    F_rebased_sorting := F51
    m_carried := m52
    F_carried := F52
    m_are_turned := m54
    F_are_turned := F54
    m_is_beneath := m55
    F_is_beneath := F55
    m_put_at := m57
    F_put_at := F57
    m_put_first := m58
    F_put_first := F58
    m_put_last := m59
    F_put_last := F59
    m_order_in := m61
    F_order_in := F61
    m_orders_in := m62
    F_orders_in := F62
    m_own_orders := m63
    F_own_orders := F63
    m_open_ties := m65
    F_open_ties := F65
    m_falls_of := m66
    F_falls_of := F66
    m_rises_of := m67
    F_rises_of := F67
    m__law_tape := m69
    F__law_tape := F69
    m__law_draw := m70
    F__law_draw := F70
    m__law_line := m71
    F__law_line := F71
    m__law_parts := m72
    F__law_parts := F72
    m__law_book := m73
    F__law_book := F73
    m__law_other := m74
    F__law_other := F74
    m__law_ties := m75
    F__law_ties := F75
    m__law_by_line := m76
    F__law_by_line := F76
    m__law_least_line := m77
    F__law_least_line := F77
    m__law_kept_book := m78
    F__law_kept_book := F78
    m__law_named := m79
    F__law_named := F79
    m__law_integer := m80
    F__law_integer := F80
    m__law_same := m81
    F__law_same := F81
    m__law_higher := m82
    F__law_higher := F82
    m__law_lot := m83
    F__law_lot := F83
    m__law_over_told := m84
    F__law_over_told := F84
    m__law_kept_told := m85
    F__law_kept_told := F85
    m__law_mirrored_told := m86
    F__law_mirrored_told := F86
    m__law_rebased_told := m87
    F__law_rebased_told := F87
    m__law_carried_told := m88
    F__law_carried_told := F88
    m__law_asked := m89
    F__law_asked := F89
    m__law_refusal := m90
    F__law_refusal := F90
    m__law_refused := m91
    F__law_refused := F91
    m_law := m92
    F_law := F92
    ox_NotUsable := E18.ox
    m_NotUsable := E18.m
    i_NotUsable := E18.i
    t_NotUsable := E18.t
    F_init_NotUsable := E18.F
    n_NotUsable_word := E18.nw
    n_NotUsable_at := E18.na
    x_NotUsable := E18.x
    e_NotUsable := E18.e
    m_BookError := KN.mB
    m_InRound := KN.mI
    q_NotUsable_BookError := KN.qB
    q_NotUsable_InRound := KN.qI
    xc_NotUsable := KN.xc
  }
  have e : fa = f92 := by
    have := hfa.symm.trans m92
    cases this
    rfl
  subst e
  obtain ⟨oc, od, kV, doc, pm, an, cdv, ct, osl, e2, lk, hcd⟩ := F92.ex
  exact ⟨d92, fun s u => by rw [e2]; exact .of_eq rfl, fun base => ok_law T⟩
end LK
section
open PySem PySem.W PyProof.Rows
set_option maxRecDepth 100000
set_option maxHeartbeats 0
open_top lk_head for PySem.Challenge.rw_listbylist_k09_whole_over_kept_and_carri
end
open PySem PySem.W PyProof.Rows
set_option maxRecDepth 100000 in
set_option maxHeartbeats 0 in
theorem PySem.Challenge.cw_listbylist_k09_whole_over_kept_and_carri_holds : PySem.Challenge.rw_listbylist_k09_whole_over_kept_and_carri.Holds :=
  lk_head (by
    refine LK.walk (l := PySem.Challenge.rw_listbylist_k09_whole_over_kept_and_carri) rfl rfl (fun w h Y => PySem.W.kIn_of Y) ?F
    case F =>
      intro w mg fa h KX G hmg
      have h1 := LK.dfn (x := "is_integer") (st := LK.s_is_integer) KX G (by k_is) (by k_is) (by k_is) (by k_is)
      have h2 := LK.dfn (x := "is_number") (st := LK.s_is_number) KX G (by k_is) (by k_is) (by k_is) (by k_is)
      have h3 := LK.dfn (x := "is_below") (st := LK.s_is_below) KX G (by k_is) (by k_is) (by k_is) (by k_is)
      have h4 := LK.dfn (x := "is_rising") (st := LK.s_is_rising) KX G (by k_is) (by k_is) (by k_is) (by k_is)
      have h5 := LK.dfn (x := "are_below") (st := LK.s_are_below) KX G (by k_is) (by k_is) (by k_is) (by k_is)
      have h6 := LK.dfn (x := "are_unlike_below") (st := LK.s_are_unlike_below) KX G (by k_is) (by k_is) (by k_is) (by k_is)
      have h7 := LK.dfn (x := "is_lot") (st := LK.s_is_lot) KX G (by k_is) (by k_is) (by k_is) (by k_is)
      have h8 := LK.dfn (x := "is_line") (st := LK.s_is_line) KX G (by k_is) (by k_is) (by k_is) (by k_is)
      have h10 := LK.dfn (x := "is_listed") (st := LK.s_is_listed) KX G (by k_is) (by k_is) (by k_is) (by k_is)
      have h11 := LK.dfn (x := "is_book") (st := LK.s_is_book) KX G (by k_is) (by k_is) (by k_is) (by k_is)
      have h12 := LK.dfn (x := "are_tied") (st := LK.s_are_tied) KX G (by k_is) (by k_is) (by k_is) (by k_is)
      have h13 := LK.dfn (x := "is_thing") (st := LK.s_is_thing) KX G (by k_is) (by k_is) (by k_is) (by k_is)
      have h14 := LK.dfn (x := "is_tie") (st := LK.s_is_tie) KX G (by k_is) (by k_is) (by k_is) (by k_is)
      have h20 := LK.dfn (x := "need") (st := LK.s_need) KX G (by k_is) (by k_is) (by k_is) (by k_is)
      have h22 := LK.dfn (x := "kept_to") (st := LK.s_kept_to) KX G (by k_is) (by k_is) (by k_is) (by k_is)
      have h23 := LK.dfn (x := "renumbered") (st := LK.s_renumbered) KX G (by k_is) (by k_is) (by k_is) (by k_is)
      have h24 := LK.dfn (x := "rebased") (st := LK.s_rebased) KX G (by k_is) (by k_is) (by k_is) (by k_is)
      have h25 := LK.dfn (x := "mirrored") (st := LK.s_mirrored) KX G (by k_is) (by k_is) (by k_is) (by k_is)
      have h27 := LK.dfn (x := "mask_of") (st := LK.s_mask_of) KX G (by k_is) (by k_is) (by k_is) (by k_is)
      have h28 := LK.dfn (x := "things_of") (st := LK.s_things_of) KX G (by k_is) (by k_is) (by k_is) (by k_is)
      have h29 := LK.dfn (x := "first_of") (st := LK.s_first_of) KX G (by k_is) (by k_is) (by k_is) (by k_is)
      have h30 := LK.dfn (x := "near_masks") (st := LK.s_near_masks) KX G (by k_is) (by k_is) (by k_is) (by k_is)
      have h31 := LK.dfn (x := "leading_masks") (st := LK.s_leading_masks) KX G (by k_is) (by k_is) (by k_is) (by k_is)
      have h32 := LK.dfn (x := "way_in") (st := LK.s_way_in) KX G (by k_is) (by k_is) (by k_is) (by k_is)
      have h33 := LK.dfn (x := "ahead_behind") (st := LK.s_ahead_behind) KX G (by k_is) (by k_is) (by k_is) (by k_is)
      have h34 := LK.dfn (x := "detour") (st := LK.s_detour) KX G (by k_is) (by k_is) (by k_is) (by k_is)
      have h35 := LK.dfn (x := "blind_ends") (st := LK.s_blind_ends) KX G (by k_is) (by k_is) (by k_is) (by k_is)
      have h36 := LK.dfn (x := "round_in") (st := LK.s_round_in) KX G (by k_is) (by k_is) (by k_is) (by k_is)
      have h37 := LK.dfn (x := "line_in") (st := LK.s_line_in) KX G (by k_is) (by k_is) (by k_is) (by k_is)
      have h39 := LK.dfn (x := "ties_of") (st := LK.s_ties_of) KX G (by k_is) (by k_is) (by k_is) (by k_is)
      have h41 := LK.dfn (x := "is_ties") (st := LK.s_is_ties) KX G (by k_is) (by k_is) (by k_is) (by k_is)
      have h42 := LK.dfn (x := "is_sorting") (st := LK.s_is_sorting) KX G (by k_is) (by k_is) (by k_is) (by k_is)
      have h44 := LK.dfn (x := "fitted") (st := LK.s_fitted) KX G (by k_is) (by k_is) (by k_is) (by k_is)
      have h45 := LK.dfn (x := "sorting_of") (st := LK.s_sorting_of) KX G (by k_is) (by k_is) (by k_is) (by k_is)
      have h46 := LK.dfn (x := "line_of") (st := LK.s_line_of) KX G (by k_is) (by k_is) (by k_is) (by k_is)
      have h48 := LK.dfn (x := "turned_over") (st := LK.s_turned_over) KX G (by k_is) (by k_is) (by k_is) (by k_is)
      have h49 := LK.dfn (x := "restricted") (st := LK.s_restricted) KX G (by k_is) (by k_is) (by k_is) (by k_is)
      have h50 := LK.dfn (x := "mirrored_sorting") (st := LK.s_mirrored_sorting) KX G (by k_is) (by k_is) (by k_is) (by k_is)
      have h51 := LK.dfn (x := "rebased_sorting") (st := LK.s_rebased_sorting) KX G (by k_is) (by k_is) (by k_is) (by k_is)
      have h52 := LK.dfn (x := "carried") (st := LK.s_carried) KX G (by k_is) (by k_is) (by k_is) (by k_is)
      have h54 := LK.dfn (x := "are_turned") (st := LK.s_are_turned) KX G (by k_is) (by k_is) (by k_is) (by k_is)
      have h55 := LK.dfn (x := "is_beneath") (st := LK.s_is_beneath) KX G (by k_is) (by k_is) (by k_is) (by k_is)
      have h57 := LK.dfn (x := "put_at") (st := LK.s_put_at) KX G (by k_is) (by k_is) (by k_is) (by k_is)
      have h58 := LK.dfn (x := "put_first") (st := LK.s_put_first) KX G (by k_is) (by k_is) (by k_is) (by k_is)
      have h59 := LK.dfn (x := "put_last") (st := LK.s_put_last) KX G (by k_is) (by k_is) (by k_is) (by k_is)
      have h61 := LK.dfn (x := "order_in") (st := LK.s_order_in) KX G (by k_is) (by k_is) (by k_is) (by k_is)
      have h62 := LK.dfn (x := "orders_in") (st := LK.s_orders_in) KX G (by k_is) (by k_is) (by k_is) (by k_is)
      have h63 := LK.dfn (x := "own_orders") (st := LK.s_own_orders) KX G (by k_is) (by k_is) (by k_is) (by k_is)
      have h65 := LK.dfn (x := "open_ties") (st := LK.s_open_ties) KX G (by k_is) (by k_is) (by k_is) (by k_is)
      have h66 := LK.dfn (x := "falls_of") (st := LK.s_falls_of) KX G (by k_is) (by k_is) (by k_is) (by k_is)
      have h67 := LK.dfn (x := "rises_of") (st := LK.s_rises_of) KX G (by k_is) (by k_is) (by k_is) (by k_is)
      have h69 := LK.dfn (x := "_law_tape") (st := LK.s__law_tape) KX G (by k_is) (by k_is) (by k_is) (by k_is)
      have h70 := LK.dfn (x := "_law_draw") (st := LK.s__law_draw) KX G (by k_is) (by k_is) (by k_is) (by k_is)
      have h71 := LK.dfn (x := "_law_line") (st := LK.s__law_line) KX G (by k_is) (by k_is) (by k_is) (by k_is)
      have h72 := LK.dfn (x := "_law_parts") (st := LK.s__law_parts) KX G (by k_is) (by k_is) (by k_is) (by k_is)
      have h73 := LK.dfn (x := "_law_book") (st := LK.s__law_book) KX G (by k_is) (by k_is) (by k_is) (by k_is)
      have h74 := LK.dfn (x := "_law_other") (st := LK.s__law_other) KX G (by k_is) (by k_is) (by k_is) (by k_is)
      have h75 := LK.dfn (x := "_law_ties") (st := LK.s__law_ties) KX G (by k_is) (by k_is) (by k_is) (by k_is)
      have h76 := LK.dfn (x := "_law_by_line") (st := LK.s__law_by_line) KX G (by k_is) (by k_is) (by k_is) (by k_is)
      have h77 := LK.dfn (x := "_law_least_line") (st := LK.s__law_least_line) KX G (by k_is) (by k_is) (by k_is) (by k_is)
      have h78 := LK.dfn (x := "_law_kept_book") (st := LK.s__law_kept_book) KX G (by k_is) (by k_is) (by k_is) (by k_is)
      have h79 := LK.dfn (x := "_law_named") (st := LK.s__law_named) KX G (by k_is) (by k_is) (by k_is) (by k_is)
      have h80 := LK.dfn (x := "_law_integer") (st := LK.s__law_integer) KX G (by k_is) (by k_is) (by k_is) (by k_is)
      have h81 := LK.dfn (x := "_law_same") (st := LK.s__law_same) KX G (by k_is) (by k_is) (by k_is) (by k_is)
      have h82 := LK.dfn (x := "_law_higher") (st := LK.s__law_higher) KX G (by k_is) (by k_is) (by k_is) (by k_is)
      have h83 := LK.dfn (x := "_law_lot") (st := LK.s__law_lot) KX G (by k_is) (by k_is) (by k_is) (by k_is)
      have h84 := LK.dfn (x := "_law_over_told") (st := LK.s__law_over_told) KX G (by k_is) (by k_is) (by k_is) (by k_is)
      have h85 := LK.dfn (x := "_law_kept_told") (st := LK.s__law_kept_told) KX G (by k_is) (by k_is) (by k_is) (by k_is)
      have h86 := LK.dfn (x := "_law_mirrored_told") (st := LK.s__law_mirrored_told) KX G (by k_is) (by k_is) (by k_is) (by k_is)
      have h87 := LK.dfn (x := "_law_rebased_told") (st := LK.s__law_rebased_told) KX G (by k_is) (by k_is) (by k_is) (by k_is)
      have h88 := LK.dfn (x := "_law_carried_told") (st := LK.s__law_carried_told) KX G (by k_is) (by k_is) (by k_is) (by k_is)
      have h89 := LK.dfn (x := "_law_asked") (st := LK.s__law_asked) KX G (by k_is) (by k_is) (by k_is) (by k_is)
      have h90 := LK.dfn (x := "_law_refusal") (st := LK.s__law_refusal) KX G (by k_is) (by k_is) (by k_is) (by k_is)
      have h91 := LK.dfn (x := "_law_refused") (st := LK.s__law_refused) KX G (by k_is) (by k_is) (by k_is) (by k_is)
      have h92 := LK.dfn (x := "law") (st := LK.s_law) KX G (by k_is) (by k_is) (by k_is) (by k_is)
      have c18 := LK.exf (n := "NotUsable") (q := "NotUsable.__init__") (st := L2.inClass (LK.topS 18) 0) KX G (by k_is) (by k_is) (by decide +kernel) (by k_is) (by k_is) (by k_is) (by k_is) (by k_is) (by k_is) (by k_is) (by k_is) (by k_is) (by k_is) (by k_is) (by k_is) (by k_is) (by k_is) (by k_is) (by first | rfl | k_is)
      have kin := LK.exk KX G (by k_is) (by k_is) (by k_is) (by k_is) (by k_is) (by k_is) (by k_is) (by k_is) (by k_is) (by k_is) (by k_is) (by k_is) (by k_is) (by k_is) (by k_is) (by k_is) (by k_is) (by k_is)
      have g_isinstance := PySem.W.mg_none_of (n := "isinstance") KX G (by k_is)
      have g_int := PySem.W.mg_none_of (n := "int") KX G (by k_is)
      have g_bool := PySem.W.mg_none_of (n := "bool") KX G (by k_is)
      have g_tuple := PySem.W.mg_none_of (n := "tuple") KX G (by k_is)
      have g_str := PySem.W.mg_none_of (n := "str") KX G (by k_is)
      have g_list := PySem.W.mg_none_of (n := "list") KX G (by k_is)
      have g_len := PySem.W.mg_none_of (n := "len") KX G (by k_is)
      have g_all := PySem.W.mg_none_of (n := "all") KX G (by k_is)
      have g_any := PySem.W.mg_none_of (n := "any") KX G (by k_is)
      have g_set := PySem.W.mg_none_of (n := "set") KX G (by k_is)
      have g_sorted := PySem.W.mg_none_of (n := "sorted") KX G (by k_is)
      have g_range := PySem.W.mg_none_of (n := "range") KX G (by k_is)
      have g_enumerate := PySem.W.mg_none_of (n := "enumerate") KX G (by k_is)
      have g_sum := PySem.W.mg_none_of (n := "sum") KX G (by k_is)
      have g_min := PySem.W.mg_none_of (n := "min") KX G (by k_is)
      have g_max := PySem.W.mg_none_of (n := "max") KX G (by k_is)
      have g_abs := PySem.W.mg_none_of (n := "abs") KX G (by k_is)
      have g_reversed := PySem.W.mg_none_of (n := "reversed") KX G (by k_is)
      obtain ⟨fd, hb, hF⟩ := LK.all_mk (P := (PySem.Challenge.rw_listbylist_k09_whole_over_kept_and_carri).prog) (w := w) hmg h1 h2 h3 h4 h5 h6 h7 h8 h10 h11 h12 h13 h14 h20 h22 h23 h24 h25 h27 h28 h29 h30 h31 h32 h33 h34 h35 h36 h37 h39 h41 h42 h44 h45 h46 h48 h49 h50 h51 h52 h54 h55 h57 h58 h59 h61 h62 h63 h65 h66 h67 h69 h70 h71 h72 h73 h74 h75 h76 h77 h78 h79 h80 h81 h82 h83 h84 h85 h86 h87 h88 h89 h90 h91 h92 c18 kin g_isinstance g_int g_bool g_tuple g_str g_list g_len g_all g_any g_set g_sorted g_range g_enumerate g_sum g_min g_max g_abs g_reversed
      exact ⟨fd, hb, fun base _ _ => hF base⟩)
