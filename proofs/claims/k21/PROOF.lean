import PyProof.Rows.All
import Wide.All
import OpenK.AllK
import Wide.FinOn
import HandS.ForMost
import HandS.ForExc
import HandS.ExcInit
import HandS.ExcField
import HandS.Star
import HandS.Defaults
import HandS.SetFor
import HandS.SetKeys
import HandS.IsInst
import HandS.Wide
import HandS.WideBits
import HandS.Conv
import HandS.DictComp
import HandS.Rev
import HandS.RevRange
import HandS.SortInts
import HandS.TupAny
import HandS.TupMul
import HandS.FStr
import HandS.Strs
import HandS.Flow
import KE.KIndexOf
import KE.SortData
import KE.GoesMore
import HandS.ExcIs
import HandS.OwnEq
import PyProof.InstEq
import PyProof.EqKinds
import HandS.WordsDict
import HandS.Deep
import KE.KSortTup
import KE.KeyNested
import HandS.Iter
import HandS.TupLen
import KE.DataCmp
import HandS.Style
import PyProof.Rows.SeqMore
import HandS.TupSets
import KE.KRevSl
import HandS.List
import HandS.Exc
import HandS.HotCalls
import OpenK.KWalk
import PySem.Challenge.RW_listbylist_k21_whole_pieces_by_end_ropes
set_option Elab.async false
set_option linter.all false
set_option maxRecDepth 100000
set_option maxHeartbeats 4000000
namespace LK
open PySem PySem.Spec PyProof.Rows L2

/-! ### data as it stands in the heap, each tuple and list of at most 1000 -/
mutual
inductive Rp (K : PySem.W.Frag) (H : Hp) : V → PyData → Prop
  | non : Rp K H .non .none
  | bl (b : Bool) : Rp K H (.bl b) (.bool b)
  | int (i : Int) : Rp K H (.int i) (.int i)
  | str (x : Str) : Rp K H (.str x) (.str x)
  | lst {a : Addr} {xs : List V} {ds : List PyData} : SqL K H a xs → xs.length ≤ 1000 → RpAll K H xs ds → Rp K H (.ref a) (.list ds)
  | tup {a : Addr} {xs : List V} {ds : List PyData} : SqT K H a xs → xs.length ≤ 1000 → RpAll K H xs ds → Rp K H (.ref a) (.tuple ds)
inductive RpAll (K : PySem.W.Frag) (H : Hp) : List V → List PyData → Prop
  | nil : RpAll K H [] []
  | cons {v : V} {vs : List V} {d : PyData} {ds : List PyData} : Rp K H v d → RpAll K H vs ds → RpAll K H (v :: vs) (d :: ds)
end

theorem seqT {K : PySem.W.Frag} {H H' : Hp} {a : Addr} {xs : List V} (e : Same H H') (h : SqT K H a xs) : SqT K H' a xs := by
  rcases h with (h | ⟨o, h⟩) | h
  · exact .inl (.inl (e _ _ h))
  · exact .inl (.inr ⟨o, e _ _ h⟩)
  · exact .inr h
mutual
theorem Rp.same {K : PySem.W.Frag} {H H' : Hp} (e : Same H H') : ∀ {d : PyData} {v : V}, Rp K H v d → Rp K H' v d
  | .none, _, h => by cases h; exact .non
  | .bool b, _, h => by cases h; exact .bl b
  | .int i, _, h => by cases h; exact .int i
  | .str x, _, h => by cases h; exact .str x
  | .list ds, _, h => by
    cases h with
    | lst s l r => exact .lst (e.seq s) l (RpAll.same e r)
  | .tuple ds, _, h => by
    cases h with
    | tup s l r => exact .tup (seqT e s) l (RpAll.same e r)
  | .dict _, _, h => by cases h
theorem RpAll.same {K : PySem.W.Frag} {H H' : Hp} (e : Same H H') : ∀ {ds : List PyData} {vs : List V}, RpAll K H vs ds → RpAll K H' vs ds
  | [], _, h => by cases h; exact .nil
  | d :: ds, _, h => by
    cases h with
    | cons a b => exact .cons (Rp.same e a) (RpAll.same e b)
end
mutual
theorem Rp.dp {K : PySem.W.Frag} {H : Hp} : ∀ {d : PyData} {v : V}, Rp K H v d → Dp K H v d
  | .none, _, h => by cases h; exact .non
  | .bool b, _, h => by cases h; exact .bl b
  | .int i, _, h => by cases h; exact .int i
  | .str x, _, h => by cases h; exact .str x
  | .list ds, _, h => by
    cases h with
    | lst s l r => exact .lst s (RpAll.dp r)
  | .tuple ds, _, h => by
    cases h with
    | tup s l r => exact .tup s (RpAll.dp r)
  | .dict _, _, h => by cases h
theorem RpAll.dp {K : PySem.W.Frag} {H : Hp} : ∀ {ds : List PyData} {vs : List V}, RpAll K H vs ds → DpAll K H vs ds
  | [], _, h => by cases h; exact .nil
  | d :: ds, _, h => by
    cases h with
    | cons a b => exact .cons (Rp.dp a) (RpAll.dp b)
end
theorem RpAll.length {K : PySem.W.Frag} {H : Hp} : ∀ {ds : List PyData} {vs : List V}, RpAll K H vs ds → vs.length = ds.length
  | [], _, h => by cases h; rfl
  | d :: ds, _, h => by
    cases h with
    | cons a b => rw [List.length_cons, List.length_cons, RpAll.length b]
theorem RpAll.get {K : PySem.W.Frag} {H : Hp} : ∀ {ds : List PyData} {vs : List V} {i : Nat} {v : V}, RpAll K H vs ds → vs[i]? = some v → ∃ d, ds[i]? = some d ∧ Rp K H v d
  | [], _, i, v, h, e => by cases h; simp at e
  | d :: ds, _, 0, v, h, e => by
    cases h with
    | cons a b => simp at e; subst e; exact ⟨d, rfl, a⟩
  | d :: ds, _, i + 1, v, h, e => by
    cases h with
    | cons a b =>
      obtain ⟨d', h1, h2⟩ := RpAll.get (i := i) (v := v) b (by simpa using e)
      exact ⟨d', by simpa using h1, h2⟩
theorem RpAll.getD {K : PySem.W.Frag} {H : Hp} {ds : List PyData} {vs : List V} {i : Nat} {d : PyData} (h : RpAll K H vs ds) (e : ds[i]? = some d) : ∃ v, vs[i]? = some v ∧ Rp K H v d := by
  have hl := h.length
  have hi : i < vs.length := by rw [hl]; exact (List.getElem?_eq_some_iff.mp e).1
  obtain ⟨d', h1, h2⟩ := h.get (i := i) (v := vs[i]) (by simp [hi])
  rw [e] at h1
  cases h1
  exact ⟨_, by simp [hi], h2⟩
theorem RpAll.ints {K : PySem.W.Frag} {H : Hp} : ∀ (ns : List Int), RpAll K H (ns.map V.int) (ns.map PyData.int)
  | [] => .nil
  | n :: ns => .cons (.int n) (RpAll.ints ns)
theorem RpAll.ofInts {K : PySem.W.Frag} {H : Hp} : ∀ {ns : List Int} {vs : List V}, RpAll K H vs (ns.map PyData.int) → vs = ns.map V.int
  | [], _, h => by cases h; rfl
  | n :: ns, _, h => by
    cases h with
    | cons a b => cases a; rw [RpAll.ofInts b]; rfl
theorem RpAll.app {K : PySem.W.Frag} {H : Hp} : ∀ {ds es : List PyData} {vs ws : List V}, RpAll K H vs ds → RpAll K H ws es → RpAll K H (vs ++ ws) (ds ++ es)
  | [], _, _, _, .nil, g => g
  | _ :: _, _, _, _, .cons a b, g => .cons a (RpAll.app b g)

/-! ### what kind data is of -/
def tyN : PyData → String
  | .none => "NoneType"
  | .bool _ => "bool"
  | .int _ => "int"
  | .str _ => "str"
  | .list _ => "list"
  | .tuple _ => "tuple"
  | .dict _ => "dict"
theorem Rp.ty {K : PySem.W.Frag} {H : Hp} {v : V} {d : PyData} (h : Rp K H v d) : TyX K H v (.type (tyN d)) := by
  cases h with
  | non => exact .base .non
  | bl b => exact .base (.bl b)
  | int i => exact .base (.int i)
  | str x => exact .base (.str x)
  | lst s l r =>
    rcases s with (s | ⟨o, s⟩) | ⟨o, its, n, s, c, _⟩
    · exact .base (.lst s)
    · exact .base (.frz s)
    · exact .kList s c
  | tup s l r =>
    rcases s with (s | ⟨o, s⟩) | ⟨o, its, n, s, c, _⟩
    · exact .base (.tup s)
    · exact .fTuple s
    · exact .kTuple s c
def isIntB : PyData → Bool
  | .int _ => true
  | .bool _ => true
  | _ => false
def isBoolB : PyData → Bool
  | .bool _ => true
  | _ => false
def isStrB : PyData → Bool
  | .str _ => true
  | _ => false
def isTupB : PyData → Bool
  | .tuple _ => true
  | _ => false
theorem isi_int {K : PySem.W.Frag} {H : Hp} {v : V} {d : PyData} (h : Rp K H v d) : PySem.W.kitOne K (.type (tyN d)) (.type "int") = some (isIntB d) := by
  cases h <;> (refine kit_ty ?_; simp only [tyN, isIntB, isBoolB, isStrB, isTupB]; decide +kernel)
theorem isi_bool {K : PySem.W.Frag} {H : Hp} {v : V} {d : PyData} (h : Rp K H v d) : PySem.W.kitOne K (.type (tyN d)) (.type "bool") = some (isBoolB d) := by
  cases h <;> (refine kit_ty ?_; simp only [tyN, isIntB, isBoolB, isStrB, isTupB]; decide +kernel)
theorem isi_str {K : PySem.W.Frag} {H : Hp} {v : V} {d : PyData} (h : Rp K H v d) : PySem.W.kitOne K (.type (tyN d)) (.type "str") = some (isStrB d) := by
  cases h <;> (refine kit_ty ?_; simp only [tyN, isIntB, isBoolB, isStrB, isTupB]; decide +kernel)
theorem isi_tuple {K : PySem.W.Frag} {H : Hp} {v : V} {d : PyData} (h : Rp K H v d) : PySem.W.kitOne K (.type (tyN d)) (.type "tuple") = some (isTupB d) := by
  cases h <;> (refine kit_ty ?_; simp only [tyN, isIntB, isBoolB, isStrB, isTupB]; decide +kernel)

/-! ### the mirror of kinds -/
def isInteger : PyData → Bool
  | .int _ => true
  | _ => false
def isNumber : PyData → Bool
  | .int i => decide (0 ≤ i)
  | _ => false
def isBelow (n : Int) : PyData → Bool
  | .int i => decide (0 ≤ i ∧ i < n)
  | _ => false
def rising : List Int → Bool
  | [] => true
  | [_] => true
  | a :: b :: r => decide (a < b) && rising (b :: r)
def areBelow (n : Int) : PyData → Bool
  | .tuple ds => ds.all (isBelow n)
  | _ => false
/-- the dInts of a tuple of dInts -/
def toInt : PyData → Int
  | .int i => i
  | _ => 0
def dInts : PyData → List Int
  | .tuple ds => ds.map toInt
  | _ => []
def isLot (n : Int) (d : PyData) : Bool := areBelow n d && rising (dInts d)
def areUnlike (n : Int) (d : PyData) : Bool := areBelow n d && decide (dInts d).Nodup
def isLine (n : Int) (d : PyData) : Bool := areUnlike n d && decide (((dInts d).length : Int) = n)
def dTup (ns : List Int) : PyData := .tuple (ns.map .int)
theorem dInts_tup (ns : List Int) : dInts (dTup ns) = ns := by
  unfold dInts dTup
  simp only [List.map_map]
  exact (List.map_congr_left fun i _ => rfl).trans (List.map_id ns)
theorem ints_all {n : Int} : ∀ {ds : List PyData}, ds.all (isBelow n) = true → ds = (ds.map toInt).map PyData.int
  | [], _ => rfl
  | d :: ds, h => by
    rw [List.all_cons, Bool.and_eq_true] at h
    obtain ⟨h1, h2⟩ := h
    cases d with
    | int i => rw [List.map_cons, List.map_cons, ← ints_all h2]; rfl
    | _ => exact absurd h1 (by simp [isBelow])
theorem areBelow_tup {n : Int} {d : PyData} (h : areBelow n d = true) : d = dTup (dInts d) := by
  cases d with
  | tuple ds => unfold dTup dInts; rw [← ints_all (n := n) h]
  | _ => exact absurd h (by simp [areBelow])
/-- a tuple of dInts, as it stands -/
def TupI (K : PySem.W.Frag) (H : Hp) (a : Addr) (ns : List Int) : Prop := SqT K H a (ns.map V.int) ∧ ns.length ≤ 1000
theorem TupI.rp {K : PySem.W.Frag} {H : Hp} {a : Addr} {ns : List Int} (h : TupI K H a ns) : Rp K H (.ref a) (dTup ns) := .tup h.1 (by rw [List.length_map]; exact h.2) (RpAll.ints ns)
theorem TupI.same {K : PySem.W.Frag} {H H' : Hp} {a : Addr} {ns : List Int} (e : Same H H') (h : TupI K H a ns) : TupI K H' a ns := ⟨seqT e h.1, h.2⟩
theorem Rp.tupI {K : PySem.W.Frag} {H : Hp} {v : V} {ns : List Int} (h : Rp K H v (dTup ns)) : ∃ a, v = .ref a ∧ TupI K H a ns := by
  generalize hd : dTup ns = d at h
  cases h with
  | @tup a xs ds s l r =>
    have e : ds = ns.map PyData.int := by
      unfold dTup at hd
      injection hd with hd
      exact hd.symm
    subst e
    have ex := r.ofInts
    subst ex
    exact ⟨a, rfl, s, by rw [List.length_map] at l; exact l⟩
  | _ => exact absurd hd (by simp [dTup])
theorem same_upd {H : Hp} {p : Addr} {o : HO} (n : H p = none) : Same H (upd H p o) := fun b u e => by rw [upd_ne (ne_of_none e n)]; exact e
theorem small_line {n : Nat} (h : n ≤ 1000) : n < sizeLine := small1000 h
/-- a list that is being filled by a comprehension: what stood ahead stands, at D the values so far -/
def Fill (H : Hp) (D : Addr) (H' : Hp) (xs : List V) : Prop := Same H H' ∧ H' D = some (.lst xs)
theorem Fill.start {H : Hp} {D : Addr} (n : H D = none) : Fill H D (upd H D (.lst [])) [] := ⟨same_upd n, upd_same⟩
theorem Fill.push {H H1 H2 : Hp} {D : Addr} {xs : List V} {y : V} (n : H D = none) (f : Fill H D H1 xs) (s : Same H1 H2) : Fill H D (upd H2 D (.lst (xs ++ [y]))) (xs ++ [y]) :=
  ⟨fun b o e => by rw [upd_ne (ne_of_none e n)]; exact s _ _ (f.1 _ _ e), upd_same⟩
theorem Fill.at {H H1 H2 : Hp} {D : Addr} {xs : List V} (f : Fill H D H1 xs) (s : Same H1 H2) : H2 D = some (.lst xs) := s _ _ f.2

/-! ### promises of kinds -/
section
variable (K : PySem.W.Frag)
def spB1 (g : PyData → Bool) : Sp := fun vs H Q _ => ∃ v d, vs = [v] ∧ Rp K H v d ∧ Q (.bl (g d)) H
def spIB0 (g : Int → PyData → Bool) : Sp := fun vs H Q _ => ∃ n v d, vs = [.int n, v] ∧ Rp K H v d ∧ Q (.bl (g n d)) H
def spIB (g : Int → PyData → Bool) : Sp := fun vs H Q _ => ∃ n v d, vs = [.int n, v] ∧ Rp K H v d ∧ ∀ H', Same H H' → Q (.bl (g n d)) H'
def spRising : Sp := fun vs H Q _ => ∃ a ns, vs = [.ref a] ∧ TupI K H a ns ∧ ∀ H', Same H H' → Q (.bl (rising ns)) H'
end

/-! ### the layer's rules with the written part named (within a comprehension the reading must not speak of the block) -/
section
variable {X : Cx}
def rLenS (K : PySem.W.Frag) : List V → Hp → VK → Prop := fun xs H Q => ∃ p ys, xs = [.ref p] ∧ (SqL K H p ys ∨ SqT K H p ys) ∧ Q (.int (ys.length : Nat)) H
def rTupOf (K : PySem.W.Frag) : List V → Hp → VK → Prop := fun xs H Q => ∃ p ys, xs = [.ref p] ∧ ((SqL K H p ys ∧ ∀ l, H l = none → Q (.ref l) (upd H l (.tup ys))) ∨ (SqT K H p ys ∧ Q (.ref p) H))
def rLstOf (K : PySem.W.Frag) : List V → Hp → VK → Prop := fun xs H Q => ∃ p ys, xs = [.ref p] ∧ (SqL K H p ys ∨ SqT K H p ys) ∧ ∀ l, H l = none → Q (.ref l) (upd H l (.lst ys))
theorem ixT (K : PySem.W.Frag) (h : X.K = K := by rfl) : IxR X (rIxT K) := h ▸ ix_tup
theorem ixL (K : PySem.W.Frag) (h : X.K = K := by rfl) : IxR X (rIxL K) := h ▸ ix_list
theorem inS (K : PySem.W.Frag) (h : X.K = K := by rfl) : OpR X (compareOp .In) (rIn K false) := h ▸ op_in_seq
theorem notInS (K : PySem.W.Frag) (h : X.K = K := by rfl) : OpR X (compareOp .NotIn) (rIn K true) := h ▸ op_notIn_seq
theorem lenS (K : PySem.W.Frag) (h : X.K = K := by rfl) : CallR X (.builtin "len") (rLenS K) := h ▸ call_len_seq
theorem slA (K : PySem.W.Frag) (h : X.K = K := by rfl) : SlR X (rSlA K) := h ▸ sl_tupA
theorem slL (K : PySem.W.Frag) (h : X.K = K := by rfl) : SlR X (rSlL K) := h ▸ sl_list
theorem allR (K : PySem.W.Frag) (hc : X.calm = true := by rfl) (h : X.K = K := by rfl) : CallR X (.builtin "all") (rAll K) := h ▸ cr_all hc
theorem anyR (K : PySem.W.Frag) (hc : X.calm = true := by rfl) (h : X.K = K := by rfl) : CallR X (.builtin "any") (rAny K) := h ▸ cr_any hc
theorem sumR (K : PySem.W.Frag) (hc : X.calm = true := by rfl) (h : X.K = K := by rfl) : CallR X (.builtin "sum") (rSum K) := h ▸ cr_sum hc
theorem isiR (K : PySem.W.Frag) (h : X.K = K := by rfl) : CallR X (.builtin "isinstance") (rIsi K) := h ▸ call_isi
theorem tupOf (K : PySem.W.Frag) (h : X.K = K := by rfl) : CallR X (.type "tuple") (rTupOf K) := h ▸ call_tuple_of
theorem lstOf (K : PySem.W.Frag) (h : X.K = K := by rfl) : CallR X (.type "list") (rLstOf K) := h ▸ call_list_of
theorem srtI (K : PySem.W.Frag) (h : X.K = K := by rfl) : CallR X (.builtin "sorted") (rSortedI K) := h ▸ cr_sortedI
theorem mtIndex (K : PySem.W.Frag) (h : X.K = K := by rfl) : MtR X "list.index" (rIndex K) := h ▸ mt_index
theorem piT (K : PySem.W.Frag) {tg l : Expr} {tl : TE} (hl : PE X l tl) (h : X.K = K := by rfl) : PI X tg l (iTup K tl) := h ▸ pi_tup hl
theorem piL (K : PySem.W.Frag) {tg l : Expr} {tl : TE} (hl : PE X l tl) (h : X.K = K := by rfl) : PI X tg l (iList K tl) := h ▸ pi_list hl
end

/-! ### data without lists stands, whatever a list becomes -/
mutual
def noL : PyData → Bool
  | .list _ => false
  | .tuple ds => noLs ds
  | _ => true
def noLs : List PyData → Bool
  | [] => true
  | d :: ds => noL d && noLs ds
end
theorem all_noL : ∀ {ds : List PyData}, (∀ d ∈ ds, noL d = true) → noLs ds = true
  | [], _ => rfl
  | d :: ds, h => by
    unfold noLs
    rw [h d (by simp), all_noL fun e he => h e (by simp [he])]
    rfl
mutual
theorem Rp.upd {K : PySem.W.Frag} {H : Hp} {D : Addr} {zs : List V} {o : HO} (hD : H D = some (.lst zs)) : ∀ {d : PyData} {v : V}, noL d = true → Rp K H v d → Rp K (L2.upd H D o) v d
  | .none, _, _, h => by cases h; exact .non
  | .bool b, _, _, h => by cases h; exact .bl b
  | .int i, _, _, h => by cases h; exact .int i
  | .str x, _, _, h => by cases h; exact .str x
  | .list ds, _, n, h => by simp [noL] at n
  | .tuple ds, _, n, h => by
    cases h with
    | tup s l r =>
      refine .tup ?_ l (RpAll.upd hD (by simpa [noL] using n) r)
      rcases s with (s | ⟨u, s⟩) | s
      · exact .inl (.inl (by rw [upd_ne (ne_of s hD (by intro z; cases z))]; exact s))
      · exact .inl (.inr ⟨u, by rw [upd_ne (ne_of s hD (by intro z; cases z))]; exact s⟩)
      · exact .inr s
  | .dict _, _, _, h => by cases h
theorem RpAll.upd {K : PySem.W.Frag} {H : Hp} {D : Addr} {zs : List V} {o : HO} (hD : H D = some (.lst zs)) : ∀ {ds : List PyData} {vs : List V}, noLs ds = true → RpAll K H vs ds → RpAll K (L2.upd H D o) vs ds
  | [], _, _, h => by cases h; exact .nil
  | d :: ds, _, n, h => by
    unfold noLs at n
    rw [Bool.and_eq_true] at n
    cases h with
    | cons a b => exact .cons (Rp.upd hD n.1 a) (RpAll.upd hD n.2 b)
end
/-! ### comprehensions whose elements are data without lists: over a tuple, a list, a range -/

theorem lcT {K : PySem.W.Frag} {a : Addr} {xs : List V} {g : TG} {tt : TT} {te : TE} {vs : List Nat} {σ : L2.St} {H : Hp} {D : Addr} {Qd : Hp → Prop} (p : Nat → Bool) (f : Nat → PyData) (hD : H D = none) (hx : SqT K H a xs) (hz : xs.length ≤ 1000) (hf : ∀ i, i < xs.length → p i = true → noL (f i) = true)
    (hs : ∀ (i : Nat) (x : V) (H1 : Hp), xs[i]? = some x → Same H H1 → ∀ (Q : VK) (Q' : Hp → Prop), (p i = true → ∀ y H2, Same H1 H2 → Rp K H2 y (f i) → Q y H2) → (p i = false → ∀ H2, Same H1 H2 → Q' H2) →
      g x (wipe σ vs) H1 fun σ2 H2 => wipe σ2 vs = wipe σ vs ∧ tt σ2 H2 fun b H3 => if b = true then te σ2 H3 Q else Q' H3)
    (hd : ∀ ys H1, Same H H1 → H1 D = some (.lst ys) → RpAll K H1 ys (((List.range xs.length).filter p).map f) → Qd H1) :
    ∃ W : Nat → Nat → Hp → Prop, (∃ m, W 0 m (upd H D (.lst []))) ∧ ∀ i m H, W i m H →
      ((Itt K a).stop i H ∧ Qd H) ∨ ((Itt K a).go i H ∧ ∃ Nx : Hp → Prop, (∀ H', Nx H' → ∃ m', m' < m ∧ W (i + 1) m' H') ∧ ∀ x H', (Itt K a).yld i H x H' → g x (wipe σ vs) H' fun σ2 H2 => wipe σ2 vs = wipe σ vs ∧ tt σ2 H2 fun b H3 =>
        if b = true then te σ2 H3 fun y H4 => ∃ acc, H4 D = some (.lst acc) ∧ acc.length < sizeLine ∧ Nx (upd H4 D (.lst (acc ++ [y]))) else Nx H3) := by
  refine lc_tup (fun i H1 => ∃ ys, Fill H D H1 ys ∧ RpAll K H1 ys (((List.range i).filter p).map f) ∧ ys.length ≤ i) ⟨[], Fill.start hD, .nil, Nat.le_refl _⟩ (fun i H1 _ ⟨ys, fl, _⟩ => seqT fl.1 hx)
    (fun i x H1 hi ⟨ys, fl, r, hy⟩ => ?_) (fun H1 ⟨ys, fl, r, hy⟩ => hd ys H1 fl.1 fl.2 r)
  have hlt : i < xs.length := (List.getElem?_eq_some_iff.mp hi).1
  refine hs i x H1 hi fl.1 _ _ (fun hp y H2 s2 ry => ⟨ys, fl.at s2, small1000 (by omega), ys ++ [y], fl.push hD s2, ?_, by rw [List.length_append, List.length_singleton]; omega⟩) (fun hp H2 s2 => ⟨ys, ⟨fl.1.trans s2, s2 _ _ fl.2⟩, ?_, by omega⟩)
  · rw [List.range_succ, List.filter_append, List.map_append]
    have e1 : ([i].filter p) = [i] := by simp [hp]
    rw [e1]
    refine RpAll.upd (fl.at s2) (all_noL fun d hd2 => ?_) ((r.same s2).app (.cons ry .nil))
    rcases List.mem_append.mp hd2 with z | z
    · obtain ⟨j, hj, rfl⟩ := List.mem_map.mp z
      have hj2 := List.mem_filter.mp hj
      exact hf j (by have := List.mem_range.mp hj2.1; omega) hj2.2
    · rw [List.map_cons, List.map_nil, List.mem_singleton] at z
      subst z
      exact hf i hlt hp
  · rw [List.range_succ, List.filter_append]
    have e1 : ([i].filter p) = [] := by simp [hp]
    rw [e1, List.append_nil]
    exact r.same s2

theorem lcL {K : PySem.W.Frag} {a : Addr} {xs : List V} {g : TG} {tt : TT} {te : TE} {vs : List Nat} {σ : L2.St} {H : Hp} {D : Addr} {Qd : Hp → Prop} (p : Nat → Bool) (f : Nat → PyData) (hD : H D = none) (hx : SqL K H a xs) (hz : xs.length ≤ 1000) (hf : ∀ i, i < xs.length → p i = true → noL (f i) = true)
    (hs : ∀ (i : Nat) (x : V) (H1 : Hp), xs[i]? = some x → Same H H1 → ∀ (Q : VK) (Q' : Hp → Prop), (p i = true → ∀ y H2, Same H1 H2 → Rp K H2 y (f i) → Q y H2) → (p i = false → ∀ H2, Same H1 H2 → Q' H2) →
      g x (wipe σ vs) H1 fun σ2 H2 => wipe σ2 vs = wipe σ vs ∧ tt σ2 H2 fun b H3 => if b = true then te σ2 H3 Q else Q' H3)
    (hd : ∀ ys H1, Same H H1 → H1 D = some (.lst ys) → RpAll K H1 ys (((List.range xs.length).filter p).map f) → Qd H1) :
    ∃ W : Nat → Nat → Hp → Prop, (∃ m, W 0 m (upd H D (.lst []))) ∧ ∀ i m H, W i m H →
      ((Itl K a).stop i H ∧ Qd H) ∨ ((Itl K a).go i H ∧ ∃ Nx : Hp → Prop, (∀ H', Nx H' → ∃ m', m' < m ∧ W (i + 1) m' H') ∧ ∀ x H', (Itl K a).yld i H x H' → g x (wipe σ vs) H' fun σ2 H2 => wipe σ2 vs = wipe σ vs ∧ tt σ2 H2 fun b H3 =>
        if b = true then te σ2 H3 fun y H4 => ∃ acc, H4 D = some (.lst acc) ∧ acc.length < sizeLine ∧ Nx (upd H4 D (.lst (acc ++ [y]))) else Nx H3) := by
  refine lc_list (fun i H1 => ∃ ys, Fill H D H1 ys ∧ RpAll K H1 ys (((List.range i).filter p).map f) ∧ ys.length ≤ i) ⟨[], Fill.start hD, .nil, Nat.le_refl _⟩ (fun i H1 _ ⟨ys, fl, _⟩ => fl.1.seq hx)
    (fun i x H1 hi ⟨ys, fl, r, hy⟩ => ?_) (fun H1 ⟨ys, fl, r, hy⟩ => hd ys H1 fl.1 fl.2 r)
  have hlt : i < xs.length := (List.getElem?_eq_some_iff.mp hi).1
  refine hs i x H1 hi fl.1 _ _ (fun hp y H2 s2 ry => ⟨ys, fl.at s2, small1000 (by omega), ys ++ [y], fl.push hD s2, ?_, by rw [List.length_append, List.length_singleton]; omega⟩) (fun hp H2 s2 => ⟨ys, ⟨fl.1.trans s2, s2 _ _ fl.2⟩, ?_, by omega⟩)
  · rw [List.range_succ, List.filter_append, List.map_append]
    have e1 : ([i].filter p) = [i] := by simp [hp]
    rw [e1]
    refine RpAll.upd (fl.at s2) (all_noL fun d hd2 => ?_) ((r.same s2).app (.cons ry .nil))
    rcases List.mem_append.mp hd2 with z | z
    · obtain ⟨j, hj, rfl⟩ := List.mem_map.mp z
      have hj2 := List.mem_filter.mp hj
      exact hf j (by have := List.mem_range.mp hj2.1; omega) hj2.2
    · rw [List.map_cons, List.map_nil, List.mem_singleton] at z
      subst z
      exact hf i hlt hp
  · rw [List.range_succ, List.filter_append]
    have e1 : ([i].filter p) = [] := by simp [hp]
    rw [e1, List.append_nil]
    exact r.same s2

theorem lcR {K : PySem.W.Frag} {lo : Int} {n : Nat} {g : TG} {tt : TT} {te : TE} {vs : List Nat} {σ : L2.St} {H : Hp} {D : Addr} {Qd : Hp → Prop} (p : Nat → Bool) (f : Nat → PyData) (hD : H D = none)  (hz : n ≤ 1000) (hf : ∀ i, i < n → p i = true → noL (f i) = true)
    (hs : ∀ (i : Nat)  (H1 : Hp), i < n → Same H H1 → ∀ (Q : VK) (Q' : Hp → Prop), (p i = true → ∀ y H2, Same H1 H2 → Rp K H2 y (f i) → Q y H2) → (p i = false → ∀ H2, Same H1 H2 → Q' H2) →
      g (.int (lo + i)) (wipe σ vs) H1 fun σ2 H2 => wipe σ2 vs = wipe σ vs ∧ tt σ2 H2 fun b H3 => if b = true then te σ2 H3 Q else Q' H3)
    (hd : ∀ ys H1, Same H H1 → H1 D = some (.lst ys) → RpAll K H1 ys (((List.range n).filter p).map f) → Qd H1) :
    ∃ W : Nat → Nat → Hp → Prop, (∃ m, W 0 m (upd H D (.lst []))) ∧ ∀ i m H, W i m H →
      ((Itr lo n).stop i H ∧ Qd H) ∨ ((Itr lo n).go i H ∧ ∃ Nx : Hp → Prop, (∀ H', Nx H' → ∃ m', m' < m ∧ W (i + 1) m' H') ∧ ∀ x H', (Itr lo n).yld i H x H' → g x (wipe σ vs) H' fun σ2 H2 => wipe σ2 vs = wipe σ vs ∧ tt σ2 H2 fun b H3 =>
        if b = true then te σ2 H3 fun y H4 => ∃ acc, H4 D = some (.lst acc) ∧ acc.length < sizeLine ∧ Nx (upd H4 D (.lst (acc ++ [y]))) else Nx H3) := by
  refine lc_range (fun i H1 => ∃ ys, Fill H D H1 ys ∧ RpAll K H1 ys (((List.range i).filter p).map f) ∧ ys.length ≤ i) ⟨[], Fill.start hD, .nil, Nat.le_refl _⟩ 
    (fun i  H1 hi ⟨ys, fl, r, hy⟩ => ?_) (fun H1 ⟨ys, fl, r, hy⟩ => hd ys H1 fl.1 fl.2 r)
  have hlt : i < n := hi
  refine hs i  H1 hi fl.1 _ _ (fun hp y H2 s2 ry => ⟨ys, fl.at s2, small1000 (by omega), ys ++ [y], fl.push hD s2, ?_, by rw [List.length_append, List.length_singleton]; omega⟩) (fun hp H2 s2 => ⟨ys, ⟨fl.1.trans s2, s2 _ _ fl.2⟩, ?_, by omega⟩)
  · rw [List.range_succ, List.filter_append, List.map_append]
    have e1 : ([i].filter p) = [i] := by simp [hp]
    rw [e1]
    refine RpAll.upd (fl.at s2) (all_noL fun d hd2 => ?_) ((r.same s2).app (.cons ry .nil))
    rcases List.mem_append.mp hd2 with z | z
    · obtain ⟨j, hj, rfl⟩ := List.mem_map.mp z
      have hj2 := List.mem_filter.mp hj
      exact hf j (by have := List.mem_range.mp hj2.1; omega) hj2.2
    · rw [List.map_cons, List.map_nil, List.mem_singleton] at z
      subst z
      exact hf i hlt hp
  · rw [List.range_succ, List.filter_append]
    have e1 : ([i].filter p) = [] := by simp [hp]
    rw [e1, List.append_nil]
    exact r.same s2

theorem RpAll.ofBools {K : PySem.W.Frag} {H : Hp} : ∀ {bs : List Bool} {vs : List V}, RpAll K H vs (bs.map PyData.bool) → vs = bs.map V.bl
  | [], _, h => by cases h; rfl
  | b :: bs, _, h => by
    cases h with
    | cons a r => cases a; rw [RpAll.ofBools r]; rfl
theorem filter_true {α : Type} (l : List α) : l.filter (fun _ => true) = l := List.filter_eq_self.mpr fun _ _ => rfl

theorem mapD {ns : List Int} {i : Nat} (h : i < ns.length) : (ns.map V.int)[i]? = some (.int (ns.getD i 0)) := by
  rw [List.getElem?_map, List.getElem?_eq_getElem h, List.getD_eq_getElem?_getD, List.getElem?_eq_getElem h]
  rfl
theorem range_succ_map {α : Type} (f : Nat → α) (n : Nat) : (List.range (n + 1)).map f = f 0 :: (List.range n).map fun j => f (j + 1) := by
  rw [List.range_succ_eq_map, List.map_cons, List.map_map]
  rfl
theorem all_range {α : Type} (p : α → Bool) (z : α) : ∀ l : List α, ((List.range l.length).map fun j => p (l.getD j z)).all id = l.all p
  | [] => rfl
  | x :: l => by
    rw [List.length_cons, range_succ_map, List.all_cons, List.all_cons, ← all_range p z l]
    rfl
theorem rising_all : ∀ ns : List Int, ((List.range (ns.length - 1)).map fun j => decide (ns.getD j 0 < ns.getD (j + 1) 0)).all id = rising ns
  | [] => rfl
  | [_] => rfl
  | a :: b :: r => by
    have ih := rising_all (b :: r)
    have e : (a :: b :: r).length - 1 = ((b :: r).length - 1) + 1 := by simp
    rw [e, range_succ_map, List.all_cons]
    show (decide (a < b) && _) = (decide (a < b) && rising (b :: r))
    rw [← ih]
    rfl
end LK
/-! a comprehension of three clauses: the loops of its clauses with what a turn does told apart -/
namespace LK
open PySem PySem.Spec PyProof.Rows L2
def noE : Value → Shared → Prop := fun _ _ => False
def okPost (P : Shared → Prop) : Result → Shared → Prop := fun r s' => match r with | .ok _ => P s' | .error _ => False
def turnOut (cmp : Expr) (d : Nat) (tgt src0 src : Expr) (sieve : List Expr) (it acc : Value) (en : Env) : Sem Fin := do
  standAt src0.pos
  match ← pyNext it with
  | none => pure (Fin.done Flow.next)
  | some got =>
    letOwnedTupleGo tgt it got
    assign tgt en got
    let mut go := true
    for q in sieve do
      if go then go ← isTrue q en (eval q en)
    if go then
      let y0 ← eval src en
      standAt src.pos
      let y ← foldedSetIterable src en y0
      let _ ← runOwn (.compStart cmp (d + 1) (← holding [y] (pyIter y)) acc en) en
    again (Code.compLoop cmp d it acc en)
def turnLast (cmp : Expr) (d : Nat) (tgt src0 elt : Expr) (sieve : List Expr) (it acc : Value) (en : Env) : Sem Fin := do
  standAt src0.pos
  match ← pyNext it with
  | none => pure (Fin.done Flow.next)
  | some got =>
    letOwnedTupleGo tgt it got
    assign tgt en got
    let mut go := true
    for q in sieve do
      if go then go ← isTrue q en (eval q en)
    if go then
      (do let _ ← call (Value.builtin "list.append") [acc, ← eval elt en])
    again (Code.compLoop cmp d it acc en)
section
variable {elt a0 b0 a1 b1 a2 b2 : Expr} {f0 f1 f2 : List Expr} {sc : Scope} {ps : Pos} {it acc : Value} {en : Env}
abbrev cmp3 (elt a0 b0 a1 b1 a2 b2 : Expr) (f0 f1 f2 : List Expr) (sc : Scope) (ps : Pos) : Expr := .ListComp elt [⟨a0, b0, f0, 0⟩, ⟨a1, b1, f1, 0⟩, ⟨a2, b2, f2, 0⟩] sc ps
theorem turn3_0 : compTurn (cmp3 elt a0 b0 a1 b1 a2 b2 f0 f1 f2 sc ps) 0 it acc en = turnOut (cmp3 elt a0 b0 a1 b1 a2 b2 f0 f1 f2 sc ps) 0 a0 b0 b1 f0 it acc en := by rfl
theorem turn3_1 : compTurn (cmp3 elt a0 b0 a1 b1 a2 b2 f0 f1 f2 sc ps) 1 it acc en = turnOut (cmp3 elt a0 b0 a1 b1 a2 b2 f0 f1 f2 sc ps) 1 a1 b1 b2 f1 it acc en := by rfl
theorem turn3_2 : compTurn (cmp3 elt a0 b0 a1 b1 a2 b2 f0 f1 f2 sc ps) 2 it acc en = turnLast (cmp3 elt a0 b0 a1 b1 a2 b2 f0 f1 f2 sc ps) 2 a2 b2 elt f2 it acc en := by rfl
end
section
variable (M : Model) (A : Around) (en : Env)
/-- one turn: B is what a turn does behind the clause's tests -/
def TurnB (tgt : Expr) (sieve : List Expr) (it : Value) (B : Shared → (Shared → Prop) → Prop) (I : Nat → Shared → Prop) (R : Result → Shared → Prop) (n : Nat) (s : Shared) : Prop :=
  wpAny M A (pyNext it) (fun r s1 => match r with
    | none => R (.ok .next) s1
    | some got => wpAny M A (letOwnedTupleGo tgt it got) (fun _ s2 => wpAny M A (assign tgt en got) (fun _ s3 =>
        wpAny M A (forIn sieve true fun q go => if go = true then do let g ← isTrue q en (eval q en); pure (ForInStep.yield g) else pure (ForInStep.yield go)) (fun go s4 =>
          if go = true then B s4 (fun s' => ∃ m, m < n ∧ I m s') else ∃ m, m < n ∧ I m s4) noE s3) noE s2) noE s1) noE s
def LoopB (cmp : Expr) (d : Nat) (tgt : Expr) (sieve : List Expr) (acc : Value) (B : Shared → (Shared → Prop) → Prop) : Prop :=
  ∀ (it : Value) (I : Nat → Shared → Prop) (R : Result → Shared → Prop), (∀ n s, I n s → TurnB M A en tgt sieve it B I R n s) → ∀ n s, I n s → codeAny M A (.compLoop cmp d it acc en) R s
def BOut (cmp : Expr) (d : Nat) (src : Expr) (acc : Value) : Shared → (Shared → Prop) → Prop := fun s P =>
  wpAny M A (eval src en) (fun y s1 => wpAny M A (pyIter y) (fun it1 s2 => codeAny M A (.compStart cmp d it1 acc en) (okPost P) s2) noE s1) noE s
def BLast (elt : Expr) (acc : Value) : Shared → (Shared → Prop) → Prop := fun s P =>
  wpAny M A (eval elt en) (fun y s1 => wpAny M A (call (.builtin "list.append") [acc, y]) (fun _ s2 => P s2) noE s1) noE s
end
section
variable {prog : Program} {w : World} {A : Around} {en : Env} {elt tgt src0 src : Expr} {gs : List Comprehension} {sieve : List Expr} {sc : Scope} {ps : Pos} {acc : Value} {d : Nat}
theorem loopB_out (hT : ∀ it, compTurn (.ListComp elt gs sc ps) d it acc en = turnOut (.ListComp elt gs sc ps) d tgt src0 src sieve it acc en) (hs : ∀ y, foldedSetIterable src en y = pure y) :
    LoopB (model prog w) A en (.ListComp elt gs sc ps) d tgt sieve acc (BOut (model prog w) A en (.ListComp elt gs sc ps) (d + 1) src acc) := by
  intro it I R turn n s hI
  refine codeAny_loop rfl I (fun n s hI => ?_) n hI
  show wpAny _ A ((compTurn (.ListComp elt gs sc ps) d it acc en).onRaise (fun x => do noteFrame x en; theTreesLotGoes x)) _ _ s
  refine wpAny_noted ?_
  rw [hT it]
  refine wpAny_bind (wpAny_standAt (wpAny_bind (thnF (turn n s hI) fun r s1 h1 => ?_)))
  cases r with
  | none => exact wpAny_pure h1
  | some got =>
    refine wpAny_bind (thnF h1 fun _ s2 h2 => ?_)
    refine wpAny_bind (thnF h2 fun _ s3 h3 => wpAny_bind (thnF h3 fun go s4 h4 => ?_))
    cases go with
    | false => exact wpAny_pure ⟨rfl, h4⟩
    | true =>
      refine wpAny_bind (thnF h4 fun y s5 h5 => ?_)
      refine wpAny_bind (wpAny_standAt (wpAny_bind (wpAny_of_eq (hs y) (wpAny_bind (wpAny_holding (thnF h5 fun it1 s6 h6 => ?_))))))
      refine wpAny_bind (wpAny_runOwn ?_)
      rw [Around.mark_none]
      refine codeAny_mono h6 fun r s' hr => ?_
      cases r with
      | ok f =>
        first
          | exact wpAny_pure ⟨rfl, hr⟩
          | exact wpAny_bind (wpAny_pure (wpAny_pure ⟨rfl, hr⟩))
      | error e => exact hr.elim
theorem loopB_last (hT : ∀ it, compTurn (.ListComp elt gs sc ps) d it acc en = turnLast (.ListComp elt gs sc ps) d tgt src0 elt sieve it acc en) :
    LoopB (model prog w) A en (.ListComp elt gs sc ps) d tgt sieve acc (BLast (model prog w) A en elt acc) := by
  intro it I R turn n s hI
  refine codeAny_loop rfl I (fun n s hI => ?_) n hI
  show wpAny _ A ((compTurn (.ListComp elt gs sc ps) d it acc en).onRaise (fun x => do noteFrame x en; theTreesLotGoes x)) _ _ s
  refine wpAny_noted ?_
  rw [hT it]
  refine wpAny_bind (wpAny_standAt (wpAny_bind (thnF (turn n s hI) fun r s1 h1 => ?_)))
  cases r with
  | none => exact wpAny_pure h1
  | some got =>
    refine wpAny_bind (thnF h1 fun _ s2 h2 => ?_)
    refine wpAny_bind (thnF h2 fun _ s3 h3 => wpAny_bind (thnF h3 fun go s4 h4 => ?_))
    cases go with
    | false => exact wpAny_pure ⟨rfl, h4⟩
    | true => exact wpAny_bind (wpAny_bind (thnF h4 fun y s5 h5 => wpAny_bind (thnF h5 fun _ s6 h6 => wpAny_pure (wpAny_pure ⟨rfl, h6⟩))))
/-- the start of a later clause -/
theorem start_later {cmp : Expr} (hcm : cmp = .ListComp elt gs sc ps) {src1 : Expr} (hg : gs[d]? = some ⟨tgt, src1, sieve, 0⟩) {R : Result → Shared → Prop} {it : Value} {s : Shared}
    (same : codeAny (model prog w) A (.compLoop (.ListComp elt gs sc ps) d it acc en) R s)
    (anew : wpAny (model prog w) A (pyIter it) (fun it' s' => codeAny (model prog w) A (.compLoop (.ListComp elt gs sc ps) d it' acc en) R s') noE s) :
    codeAny (model prog w) A (.compStart (.ListComp elt gs sc ps) d it acc en) R s := by
  refine codeAny_of_tree ?_
  show wpAny _ _ ((compStart (.ListComp elt gs sc ps) d it acc en).onRaise (fun x => do noteFrame x en; standAt theWindowsPlace)) _ _ s
  refine wpAny_notedAt ?_
  unfold compStart
  have e1 : (clausesOf (.ListComp elt gs sc ps))[d]? = some ⟨tgt, src1, sieve, 0⟩ := hg
  simp only [e1]
  show wpAny _ _ (ask >>= _) _ _ s
  refine wpAny_bind (wpAny_askSetting (wpAny_ite ?_))
  split
  · first
      | exact wpAny_bind (wpAny_pure (wpAny_pure (And.intro rfl same)))
      | exact wpAny_pure (And.intro rfl same)
  · first
      | exact wpAny_bind (wpAny_rule (wpAny_bind (wpAny_standAt (wpAny_bind (thnF anew fun it' s' h' => wpAny_pure (And.intro rfl h'))))))
      | (refine wpAny_bind (wpAny_rule ?_); show wpAny _ _ (standAt src1.pos >>= _) _ _ s; exact wpAny_bind (wpAny_standAt (wpAny_bind (thnF anew fun it' s' h' => wpAny_pure (And.intro rfl h')))))
end
end LK
namespace LK
open PySem PySem.Spec PyProof.Rows L2
/-- what a clause asks: tb is what a turn of it does behind its tests, Nx what is to hold in the end -/
def tIn (wi : TI) (g : TG) (tt : TT) (vs : List Nat) (tb : L2.St → Hp → (Hp → Prop) → Prop) : L2.St → Hp → (Hp → Prop) → Prop := fun σ H Nx => wi σ H fun J H1 => ∃ W : Nat → Nat → Hp → Prop, (∃ m, W 0 m H1) ∧ ∀ j k H2, W j k H2 →
  (J.stop j H2 ∧ Nx H2) ∨ (J.go j H2 ∧ ∃ Ny : Hp → Prop, (∀ H', Ny H' → ∃ k', k' < k ∧ W (j + 1) k' H') ∧ ∀ x H', J.yld j H2 x H' → g x (wipe σ vs) H' fun σ3 H3 => wipe σ3 vs = wipe σ vs ∧ tt σ3 H3 fun b H4 => if b = true then tb σ3 H4 Ny else Ny H4)
/-- the last clause's turn: one more element -/
def tApp (te : TE) (D : Addr) : L2.St → Hp → (Hp → Prop) → Prop := fun σ H Nx => te σ H fun y H1 => ∃ ys, H1 D = some (.lst ys) ∧ ys.length < sizeLine ∧ Nx (upd H1 D (.lst (ys ++ [y])))
def BodyR (Y : Cx) (B : Shared → (Shared → Prop) → Prop) (vs : List Nat) (tb : L2.St → Hp → (Hp → Prop) → Prop) : Prop :=
  ∀ (pins : List (Addr × Obj)) (σ : L2.St) (H : Hp) (s : Shared) (Nx : Hp → Prop), Inv Y pins σ H s → tb σ H Nx → B s fun s' => ∃ H', Inv Y pins (wipe σ vs) H' s' ∧ Nx H'
def Mono (B : Shared → (Shared → Prop) → Prop) : Prop := ∀ s (P P' : Shared → Prop), (∀ s', P s' → P' s') → B s P → B s P'
section
variable {M : Model} {A : Around} {en : Env} {cmp src elt : Expr} {d : Nat} {acc : Value}
theorem okPost_mono {P P' : Shared → Prop} (h : ∀ s', P s' → P' s') {r : Result} {s : Shared} (p : okPost P r s) : okPost P' r s := by
  cases r with
  | ok f => exact h s p
  | error e => exact p
theorem mono_out : Mono (BOut M A en cmp d src acc) := fun s P P' h b => thnF b fun y s1 b1 => thnF b1 fun it s2 b2 => codeAny_mono b2 fun r s' p => okPost_mono h p
theorem mono_last : Mono (BLast M A en elt acc) := fun s P P' h b => thnF b fun y s1 b1 => thnF b1 fun _ s2 b2 => h s2 b2
end
section
variable {Y : Cx} {elt tgt src : Expr} {gs : List Comprehension} {sieve : List Expr} {sc : Scope} {ps : Pos} {D : Addr} {d : Nat} {vs vs' : List Nat} {wi : TI} {g : TG} {tt : TT} {te : TE} {tb : L2.St → Hp → (Hp → Prop) → Prop} {B : Shared → (Shared → Prop) → Prop} {pins : List (Addr × Obj)} {τ : L2.St} {walk : List Addr} {trk : Nat → Heap → Prop} {J : It} {W : Nat → Nat → Hp → Prop} {End : Hp → Prop}
theorem last_rule (hx : Y.xe = noE) (he : PE Y elt te) : BodyR Y (BLast (model Y.prog Y.w) Y.A Y.env elt (.ref D)) vs (tApp te D) := by
  intro pins σ H s Nx I h
  have r := he.run pins s σ H _ I h
  rw [hx] at r
  refine thnF r fun z s1 ⟨yv, H1, I1, r1, ys, hD, hz, nx⟩ => ?_
  exact app_ok (X := Y) I1 hD hz r1 fun s2 I2 => ⟨_, I2.weak (wipe_length _ _) (fun j v e => (wipe_some e).1), nx⟩
/-- what holds of the walked objects, and of the clause's own promise, where a turn begins -/
structure Here (Y : Cx) (pins : List (Addr × Obj)) (τ : L2.St) (walk : List Addr) (trk : Nat → Heap → Prop) (W : Nat → Nat → Hp → Prop) (m j : Nat) (H : Hp) (s : Shared) : Prop where
  inv : Inv Y pins τ H s
  trk : trk j s.heap
  off : ∀ b ∈ walk, H b = none
  pr : W j m H
def Begins (Y : Cx) (pins : List (Addr × Obj)) (τ : L2.St) (walk : List Addr) (trk : Nat → Heap → Prop) (W : Nat → Nat → Hp → Prop) (m : Nat) (s : Shared) : Prop := ∃ j H, Here Y pins τ walk trk W m j H s
/-- a turn has run: the next one may begin -/
theorem turn_over {it : Addr} (T : Turn Y.prog Y.w Y.K tgt J walk it trk) {m j : Nat} {sA sB : Shared} {σ' : L2.St} {H' : Hp} {Ny : Hp → Prop} (at_ : trk (j + 1) sA.heap) (I : Inv Y (pins ++ pinsAt walk sA.heap) σ' H' sB)
    (hl : τ.length = σ'.length) (hk : ∀ (i : Nat) (v : V), τ[i]? = some (some v) → σ'[i]? = some (some v)) (go : ∀ H', Ny H' → ∃ k, k < m ∧ W (j + 1) k H') (ny : Ny H') : ∃ k, k < m ∧ Begins Y pins τ walk trk W k sB := by
  obtain ⟨k, lt, pr⟩ := go H' ny
  have pinned : ∀ b ∈ walk, ∀ o, sA.heap.get? b = some o → sB.heap.get? b = some o ∧ H' b = none := fun b hb o e => by
    have z := I.pin (b, o) (List.mem_append_right _ (List.mem_append_right _ (mem_pinsAt hb e)))
    exact ⟨z.1, z.2.1⟩
  refine ⟨k, lt, j + 1, H', I.unpinned.weak hl hk, T.keep _ _ _ at_ fun b hb o e => (pinned b hb o e).1, fun b hb => ?_, pr⟩
  obtain ⟨o, e, -⟩ := T.obj _ _ at_ b hb
  exact (pinned b hb o e).2
/-- the loop of one clause, whichever -/
theorem walk_rule {it : Addr} {R : Result → Shared → Prop} (hx : Y.xe = noE) (hc : Y.calm = true) (T : Turn Y.prog Y.w Y.K tgt J walk it trk) (hg : PG Y tgt g) (ht : PTs Y sieve tt)
    (ok : ∀ {σ' : L2.St} {H' : Hp} {s' : Shared}, Inv Y pins σ' H' s' → (∀ b ∈ walk, H' b = none) → ∀ b ∈ walk, FpOk Y pins H' b)
    (lp : LoopB (model Y.prog Y.w) Y.A Y.env (.ListComp elt gs sc ps) d tgt sieve (.ref D) B) (mo : Mono B) (hb : BodyR Y B vs' tb) (hv : ∀ i ∈ vs', i ∈ vs) (hτ : ∃ σ, τ = wipe σ vs)
    (step : ∀ j k H2, W j k H2 → (J.stop j H2 ∧ End H2) ∨ (J.go j H2 ∧ ∃ Ny : Hp → Prop, (∀ H', Ny H' → ∃ k', k' < k ∧ W (j + 1) k' H') ∧ ∀ x H', J.yld j H2 x H' → g x τ H' fun σ3 H3 => wipe σ3 vs = τ ∧ tt σ3 H3 fun b H4 => if b = true then tb σ3 H4 Ny else Ny H4))
    (fin : ∀ s' H', Inv Y pins τ H' s' → End H' → R (.ok .next) s') {m : Nat} {s : Shared} (b0 : Begins Y pins τ walk trk W m s) :
    codeAny (model Y.prog Y.w) Y.A (.compLoop (.ListComp elt gs sc ps) d (.ref it) (.ref D) Y.env) R s := by
  refine lp _ (Begins Y pins τ walk trk W) R ?_ m s b0
  rintro k sA ⟨j, HA, hA⟩
  rcases step j k HA hA.pr with ⟨st, en⟩ | ⟨go, Ny, hNy, step⟩
  · refine thnF (T.done Y rfl rfl rfl hc j _ sA τ HA noE hA.inv (ok hA.inv hA.off) hA.trk st) fun r sB ⟨hr, IB⟩ => ?_
    cases hr
    exact fin sB HA IB en
  · refine thnF (T.item Y rfl rfl rfl hc j _ sA τ HA noE hA.inv (ok hA.inv hA.off) hA.trk go) fun r sB ⟨u, hr, hB⟩ => ?_
    cases hr
    refine thnF hB fun _ sC ⟨x, HC, IC, rC, yC, trC, offC⟩ => ?_
    have assigned := hg.run _ sC τ HC x u _ (IC.pinned (ok IC offC) (T.obj _ _ trC)) rC (step x HC yC)
    rw [hx] at assigned
    refine thnF assigned fun _ sD ⟨σD, HD, ID, wD, qD⟩ => ?_
    have tested := ht.run _ sD σD HD _ ID qD
    rw [hx] at tested
    have len : τ.length = σD.length := by rw [← wD, wipe_length]
    refine thnF tested fun b sE ⟨HE, IE, qE⟩ => ?_
    cases b with
    | false => exact turn_over T trC IE len (fun i v e => (wipe_some (by rw [wD]; exact e)).1) hNy qE
    | true =>
      refine mo _ _ _ (fun sF ⟨HF, IF, ny⟩ => ?_) (hb _ σD HE sE Ny IE qE)
      refine turn_over T trC IF (by rw [wipe_length]; exact len) (fun i v e => ?_) hNy ny
      have both := wipe_some (show (wipe σD vs)[i]? = some (some v) by rw [wD]; exact e)
      exact (wipe_out fun z => both.2 (hv i z)).trans both.1
/-- a later clause: its source, its start, its loop -/
theorem later_rule (hx : Y.xe = noE) (hc : Y.calm = true) (hg0 : gs[d]? = some ⟨tgt, src, sieve, 0⟩) (hi : PI Y tgt src wi) (hg : PG Y tgt g) (ht : PTs Y sieve tt) (lp : LoopB (model Y.prog Y.w) Y.A Y.env (.ListComp elt gs sc ps) d tgt sieve (.ref D) B) (mo : Mono B) (hb : BodyR Y B vs' tb) (hv : ∀ i ∈ vs', i ∈ vs) :
    BodyR Y (BOut (model Y.prog Y.w) Y.A Y.env (.ListComp elt gs sc ps) d src (.ref D)) vs (tIn wi g tt vs tb) := by
  intro pins σ H s Nx I h
  have sourced := hi.run pins s σ H _ I h
  rw [hx] at sourced
  refine thnF sourced fun xv s1 h1 => thnF h1 fun itv s2 h2 => ?_
  obtain ⟨it, walk, trk, J, HS, e, IS, T, tr, off, W, ⟨m, pr⟩, step⟩ := h2
  cases e
  have loop := walk_rule (R := okPost fun s' => ∃ H', Inv Y pins (wipe σ vs) H' s' ∧ Nx H') hx hc T hg ht (fun _ hn b hb => ⟨hn b hb, (off b hb).2⟩) lp mo hb hv ⟨σ, rfl⟩ step (fun s' H' i n => ⟨H', i, n⟩)
    ⟨0, HS, IS.weak (wipe_length _ _) (fun j v e => (wipe_some e).1), tr, fun b hb => (off b hb).1, pr⟩
  exact start_later rfl hg0 loop (T.self Y.A 0 _ _ _ tr loop)
end
section
variable {X : Cx}
def tLcN (wi : TI) (g : TG) (tt : TT) (vs : List Nat) (tb : Addr → L2.St → Hp → (Hp → Prop) → Prop) : TE := fun σ H Q => wi σ H fun J H1 => ∀ D, H1 D = none → ∃ W : Nat → Nat → Hp → Prop, (∃ m, W 0 m (upd H1 D (.lst []))) ∧ ∀ j k H2, W j k H2 →
  (J.stop j H2 ∧ Q (.ref D) H2) ∨ (J.go j H2 ∧ ∃ Ny : Hp → Prop, (∀ H', Ny H' → ∃ k', k' < k ∧ W (j + 1) k' H') ∧ ∀ x H', J.yld j H2 x H' → g x (wipe σ vs) H' fun σ3 H3 => wipe σ3 vs = wipe σ vs ∧ tt σ3 H3 fun b H4 => if b = true then tb D σ3 H4 Ny else Ny H4)
def emptyList : Obj := { cls := .type "list", data := .seq ([] : List Value).toArray }
theorem core_lcN {elt tgt src : Expr} {sieve : List Expr} {gs : List Comprehension} {sc : Scope} {own : List (Str × Nat)} {vs' : List Nat} {ps ps' : Pos} {wi : TI} {g : TG} {tt : TT} {tb : Addr → L2.St → Hp → (Hp → Prop) → Prop} {B : Env → Addr → Shared → (Shared → Prop) → Prop} {use : Option (Value → Sem Unit)} {Qf : Value → Shared → Prop}
    {pins : List (Addr × Obj)} {s : Shared} {σ : L2.St} {H : Hp} {Q : VK}
    (hc : X.calm = true) (hN : X.N.Nodup) (I : Inv X pins σ H s) (hi : PI X tgt src wi) (ok : BlkOk X.N X.env.scope sc own)
    (hv : ∀ i ∈ vs', i ∈ own.map (·.2))
    (hg : ∀ s H C cl fp, PG (X.blk s H sc (compEnvC sc cl C X.env) fp) tgt g) (ht : ∀ s H C cl fp, PTs (X.blk s H sc (compEnvC sc cl C X.env) fp) sieve tt)
    (hs : ∀ y, foldedSetIterable src X.env y = pure y)
    (lp : ∀ (en : Env) (D : Addr), LoopB (model X.prog X.w) X.A en (.ListComp elt (⟨tgt, src, sieve, 0⟩ :: gs) sc ps) 0 tgt sieve (.ref D) (B en D)) (mo : ∀ en D, Mono (B en D))
    (hb : ∀ D s H C cl fp, BodyR (X.blk s H sc (compEnvC sc cl C X.env) fp) (B (compEnvC sc cl C X.env) D) vs' (tb D))
    (h : tLcN wi g tt (own.map (·.2)) tb σ H Q)
    (fin : ∀ D C s' m H', Inv X pins σ H' s' → Q (.ref D) H' → s'.heap.Ns C m → FpOk X pins H' C → compPost (model X.prog X.w) X.A X.xe use Qf (.ref D) C (.ok .next) s') :
    wpAny (model X.prog X.w) X.A (comprehension (.ListComp elt (⟨tgt, src, sieve, 0⟩ :: gs) sc ps) sc X.env ps' (newList []) false (eval src X.env) use) Qf X.xe s := by
  have cells : ∀ y ∈ sc.names, y.2 = .free → ∃ c, X.env.cells.lookup y.1 = some c := fun y hy e =>
    (ok.free y hy e).elim (fun k => I.ok.has _ (.inl k)) fun k => I.ok.has _ (.inr k)
  refine wpAny_comprehension_free (use := use) rfl hs (closure_ok cells) ok.kind
    (fun y hy e => by rw [ok.uniq y hy, e]) (thn (hi.run pins s σ H _ I h) fun xv s1 h1 => thn h1 fun itv sS h2 => ?_)
  obtain ⟨it, walk, trk, J, HS, e, IS, T, tr, off, q⟩ := h2
  cases e
  refine wpAny_newObj_type (newEnv_comp ?_) (Nat.zero_le _)
  have new : HS sS.heap.objs.size = none := IS.hok.fresh (Nat.le_refl _)
  obtain ⟨W, ⟨m, pr⟩, step⟩ := q _ new
  have got : (sS.heap.push emptyList).get? sS.heap.objs.size = some emptyList := Heap.get?_push_size _ rfl
  have IL : Inv X pins σ (upd HS sS.heap.objs.size (.lst [])) { sS with heap := sS.heap.push emptyList } :=
    IS.laid (t' := sS.toks) (fun b o e => Heap.get?_push_of_some _ e) (Nat.le_refl _) ⟨Nat.zero_le _, [], 0, .nil, got⟩
  have below : ∀ b ∈ walk, b < sS.heap.objs.size := fun b hb => by
    obtain ⟨o, eo, -⟩ := T.obj _ _ tr b hb
    exact Heap.lt_size eo
  have off2 : ∀ b ∈ walk, FpOk X pins (upd HS sS.heap.objs.size (.lst [])) b ∧ b < (sS.heap.push emptyList).objs.size := fun b hb => by
    have lt := below b hb
    exact ⟨⟨(upd_ne (Nat.ne_of_lt lt)).trans (off b hb).1, (off b hb).2⟩, by rw [Heap.size_push]; exact Nat.lt_succ_of_lt lt⟩
  have tr2 : trk 0 (sS.heap.push emptyList) := T.keep _ _ _ tr fun b _ o e => Heap.get?_push_of_some _ e
  show codeAny _ _ _ _ { sS with heap := pushCells ((sS.heap.push emptyList).push { cls := .type "dict", data := .dict #[] }) sc.names }
  have IB := block_start IL ok hN off2
  have locs : ∀ cl C, (compEnvC sc cl C X.env).locals = C := fun _ _ => rfl
  show codeAny _ _ (.compStart _ 0 (.ref it) (.ref sS.heap.objs.size) (compEnvC sc (cellsFrom ((sS.heap.push emptyList).objs.size + 1) sc.names (cloFrom X.env.cells sc.names [])) (sS.heap.push emptyList).objs.size X.env)) (compPost (model X.prog X.w) X.A X.xe use Qf (.ref sS.heap.objs.size) (sS.heap.push emptyList).objs.size) _
  generalize cellsFrom ((sS.heap.push emptyList).objs.size + 1) sc.names (cloFrom X.env.cells sc.names []) = cl at IB ⊢
  have tr3 : trk 0 (pushCells ((sS.heap.push emptyList).push { cls := .type "dict", data := .dict #[] }) sc.names) := T.keep _ _ _ tr2 fun b _ o e => pushCells_keeps _ _ _ _ (Heap.get?_push_of_some _ e)
  have loop := walk_rule (Y := X.blk { sS with heap := sS.heap.push emptyList } (upd HS sS.heap.objs.size (.lst [])) sc (compEnvC sc cl (sS.heap.push emptyList).objs.size X.env) walk) (pins := []) (R := compPost (model X.prog X.w) X.A X.xe use Qf (.ref sS.heap.objs.size) (sS.heap.push emptyList).objs.size) (End := Q (.ref sS.heap.objs.size))
    rfl hc T (hg _ _ _ _ _) (ht _ _ _ _ _) (fun I' hn b hb => ⟨hn b hb, (I'.ok.exf b hb).1, I'.ok.exfs b hb, .inl hb, fun x c e => (I'.ok.exf b hb).2 x c e, fun p hp => by cases hp⟩)
    (lp _ _) (mo _ _) (hb _ _ _ _ _ _) hv ⟨σ, rfl⟩ step (fun sE HE IE qE => by
      obtain ⟨n, names, -⟩ := IE.loc
      have away : HE (sS.heap.push emptyList).objs.size = none := IE.free
      refine fin _ _ sE n HE (IL.call' (ch := walk) IE.os IE.base IE.hok IE.bare fun b hb => ?_) qE names (IL.fpOk (Nat.le_refl _) away)
      have z := (off2 b hb).1.2
      exact ⟨z.2.2.1, z.1, z.2.2.2.1, z.2.2.2.2⟩)
    ⟨0, _, IB, tr3, fun b hb => (off2 b hb).1.1, pr⟩
  exact codeAny_compStart_list loop (T.self X.A 0 _ _ _ tr3 loop)
end
end LK
namespace LK
open PySem PySem.Spec PyProof.Rows L2
section
variable {X : Cx} {elt a0 b0 a1 b1 a2 b2 : Expr} {f0 f1 f2 : List Expr} {sc : Scope} {own : List (Str × Nat)} {vs1 vs2 : List Nat} {ps : Pos} {wi wi1 wi2 : TI} {g g1 g2 : TG} {tt tt1 tt2 : TT} {te : TE}
def tLc3 (wi : TI) (g : TG) (tt : TT) (wi1 : TI) (g1 : TG) (tt1 : TT) (wi2 : TI) (g2 : TG) (tt2 : TT) (te : TE) (vs vs1 vs2 : List Nat) : TE :=
  tLcN wi g tt vs fun D => tIn wi1 g1 tt1 vs1 (tIn wi2 g2 tt2 vs2 (tApp te D))
abbrev Blk (X : Cx) (sc : Scope) (f : Cx → Prop) : Prop := ∀ (s : Shared) (H : Hp) (C : Addr) (cl : List (Str × Addr)) (fp : List Addr), f (X.blk s H sc (compEnvC sc cl C X.env) fp)
theorem body3 (hc : X.calm = true) (hi1 : Blk X sc fun Y => PI Y a1 b1 wi1) (hg1 : Blk X sc fun Y => PG Y a1 g1) (ht1 : Blk X sc fun Y => PTs Y f1 tt1)
    (hi2 : Blk X sc fun Y => PI Y a2 b2 wi2) (hg2 : Blk X sc fun Y => PG Y a2 g2) (ht2 : Blk X sc fun Y => PTs Y f2 tt2) (he : Blk X sc fun Y => PE Y elt te)
    (hs2 : ∀ en y, foldedSetIterable b2 en y = pure y) (hv : ∀ i ∈ vs2, i ∈ vs1) (D : Addr) :
    ∀ s H C cl fp, BodyR (X.blk s H sc (compEnvC sc cl C X.env) fp) (BOut (model X.prog X.w) X.A (compEnvC sc cl C X.env) (cmp3 elt a0 b0 a1 b1 a2 b2 f0 f1 f2 sc ps) 1 b1 (.ref D)) vs1 (tIn wi1 g1 tt1 vs1 (tIn wi2 g2 tt2 vs2 (tApp te D))) := by
  intro s H C cl fp
  exact later_rule (Y := X.blk s H sc (compEnvC sc cl C X.env) fp) (d := 1) rfl hc rfl (hi1 s H C cl fp) (hg1 s H C cl fp) (ht1 s H C cl fp)
    (loopB_out (src0 := b1) (fun it => turn3_1) (hs2 _)) mono_out
    (later_rule (Y := X.blk s H sc (compEnvC sc cl C X.env) fp) (d := 2) (vs' := []) rfl hc rfl (hi2 s H C cl fp) (hg2 s H C cl fp) (ht2 s H C cl fp)
      (loopB_last (src0 := b2) fun it => turn3_2) mono_last (last_rule rfl (he s H C cl fp)) (fun i h => by cases h)) hv
variable (hc : X.calm = true) (hN : X.N.Nodup) (hi : PI X a0 b0 wi) (ok : BlkOk X.N X.env.scope sc own) (hv1 : ∀ i ∈ vs1, i ∈ own.map (·.2)) (hv2 : ∀ i ∈ vs2, i ∈ vs1)
  (hg : Blk X sc fun Y => PG Y a0 g) (ht : Blk X sc fun Y => PTs Y f0 tt)
  (hi1 : Blk X sc fun Y => PI Y a1 b1 wi1) (hg1 : Blk X sc fun Y => PG Y a1 g1) (ht1 : Blk X sc fun Y => PTs Y f1 tt1)
  (hi2 : Blk X sc fun Y => PI Y a2 b2 wi2) (hg2 : Blk X sc fun Y => PG Y a2 g2) (ht2 : Blk X sc fun Y => PTs Y f2 tt2) (he : Blk X sc fun Y => PE Y elt te)
  (hs : ∀ y, foldedSetIterable b0 X.env y = pure y := by intro _; rfl) (hs1 : ∀ en y, foldedSetIterable b1 en y = pure y := by intro _ _; rfl) (hs2 : ∀ en y, foldedSetIterable b2 en y = pure y := by intro _ _; rfl)
include hc hN hi ok hv1 hv2 hg ht hi1 hg1 ht1 hi2 hg2 ht2 he hs hs1 hs2
theorem pe_lc3 : PE X (cmp3 elt a0 b0 a1 b1 a2 b2 f0 f1 f2 sc ps) (tLc3 wi g tt wi1 g1 tt1 wi2 g2 tt2 te (own.map (·.2)) vs1 vs2) := by
  refine ⟨fun pins s σ H Q I h => ?_⟩
  rw [eval_ListComp]
  refine core_lcN (B := fun en D => BOut (model X.prog X.w) X.A en (cmp3 elt a0 b0 a1 b1 a2 b2 f0 f1 f2 sc ps) 1 b1 (.ref D)) hc hN I hi ok hv1 hg ht hs
    (fun en D => loopB_out (src0 := b0) (fun it => turn3_0) (hs1 en)) (fun en D => mono_out) (fun D => body3 hc hi1 hg1 ht1 hi2 hg2 ht2 he hs2 hv2 D) h fun D C s' m H' I' q hn f => ⟨m, hn, fun h2 sb => ?_⟩
  exact ⟨.ref D, H', I'.turned (t' := s'.toks) (fun b o hb e => (sb.2 b hb).trans e) f.1 f.2.1 f.2.2.2.1 f.2.2.2.2.1 f.2.2.2.2.2, rfl, q⟩
theorem ps_setLc3 {i : Nat} {y : Str} {py spos : Pos} (hy : X.N[i]? = some y) (hyl : X.env.scope.names.lookup y = some .local)
    (hsw : swapsWith (cmp3 elt a0 b0 a1 b1 a2 b2 f0 f1 f2 sc ps) (some (.Name y py)) spos.line X.env = pure true) :
    PS X (.Assign [.Name y py] (cmp3 elt a0 b0 a1 b1 a2 b2 f0 f1 f2 sc ps) spos) (tAsg (tLc3 wi g tt wi1 g1 tt1 wi2 g2 tt2 te (own.map (·.2)) vs1 vs2) (gName i)) := by
  refine ⟨fun pins s σ H P I h => ?_⟩
  rw [exec_Assign_Name_used _ _ _ _ hsw]
  refine wpAny_bind (wpAny_standAt (wpAny_bind ?_))
  show wpAny _ X.A (do let _ ← comprehension (cmp3 elt a0 b0 a1 b1 a2 b2 f0 f1 f2 sc ps) sc X.env (firstIterPos [⟨a0, b0, f0, 0⟩, ⟨a1, b1, f1, 0⟩, ⟨a2, b2, f2, 0⟩] ps) (newList []) false (eval b0 X.env) (some (assign (.Name y py) X.env))) _ _ s
  have h : tLc3 wi g tt wi1 g1 tt1 wi2 g2 tt2 te (own.map (·.2)) vs1 vs2 σ H (fun x H1 => gName i x σ H1 P.nx) := h
  refine wpAny_bind (thn (core_lcN (Qf := fun _ s' => SP X pins P .next s') (B := fun en D => BOut (model X.prog X.w) X.A en (cmp3 elt a0 b0 a1 b1 a2 b2 f0 f1 f2 sc ps) 1 b1 (.ref D)) hc hN I hi ok hv1 hg ht hs
    (fun en D => loopB_out (src0 := b0) (fun it => turn3_0) (hs1 en)) (fun en D => mono_out) (fun D => body3 hc hi1 hg1 ht1 hi2 hg2 ht2 he hs2 hv2 D) h fun D C s' m H' I' q hn f => ?_) fun _ s' hq => wpAny_pure (wpAny_pure hq))
  show wpAny _ _ (assign (.Name y py) X.env (.ref D)) _ _ _
  refine wpAny_assign_Name (store_ok2 (v := V.ref D) I' hN hy (.inl hyl) rfl (fun s2 I2 ⟨a, sb, ha⟩ => ?_) (.inr hyl))
  have haC : C ≠ a := ha.elim (fun z => by rw [z]; exact f.2.1) fun z e => f.2.2.2.2.1 y a z e.symm
  refine ⟨m, hn.sameBut sb haC, fun h3 sb3 => ?_⟩
  exact ⟨_, H', I2.turned (t' := s2.toks) (fun b o hb e => (sb3.2 b hb).trans e) f.1 f.2.1 f.2.2.2.1 f.2.2.2.2.1 f.2.2.2.2.2, q⟩
end
end LK
namespace LK
open PySem PySem.Spec PyProof.Rows L2
/-! ### tuple.index of ints -/
def rTIdx (K : PySem.W.Frag) : V → List V → Hp → VK → Prop := fun x xs H Q => ∃ (a : Addr) (ns : List Int) (k : Int), x = V.ref a ∧ xs = [.int k] ∧ SqT K H a (ns.map V.int) ∧ k ∈ ns ∧ Q (.int (ns.idxOf k : Nat)) H
theorem mt_tidx {X : Cx} (K : PySem.W.Frag) (hK : X.K = K := by rfl) : MtR X "tuple.index" (rTIdx K) := by
  subst hK
  intro pins s σ H x xs v us Q I rx rxs h
  obtain ⟨a, ns, k, rfl, rfl, hq, hk, q⟩ := h
  obtain ⟨its, rv, pl, hz⟩ := I.tuple hq
  cases rx
  cases rxs with
  | cons r rr =>
    cases rr
    obtain ⟨t, rfl⟩ := r
    exact PySem.SeqAt.tuple_index_ints (s := s) pl rv.ints hk ⟨.int (ns.idxOf k : Nat), H, I.tok _, ⟨_, rfl⟩, q⟩
/-! ### sorted(tuple of ints) -/
section
variable {prog : Program} {w : World} {A : Around} {E : Value → Shared → Prop} {s : Shared}
theorem collect_tup {l : Addr} {vs : List Value} {Q : List Value → Shared → Prop} (hl : s.heap.IsTuple l vs.toArray)
    (h : Q vs { s with heap := (s.heap.push (seqObj "list" #[] 0)).update s.heap.objs.size (Obj.mapSeq (· ++ vs.toArray)) }) (hsz : vs.length ≤ sizeLine := by size_fits) :
    wpAny (model prog w) A (collect (.ref l)) Q E s := by
  obtain ⟨o, ho, hc, n, hd⟩ := id hl
  unfold collect
  refine wpAny_bind (wpAny_runValue (codeAny_builtin entry_proto_collect' ?_))
  show wpAny _ _ (do again (.builtin "list.__iadd__" ⟨[← newList [], .ref l], []⟩)) _ _ s
  refine wpAny_bind (wpAny_newList (wpAny_pure ⟨Code.quiet_builtin _ (by decide +kernel), codeAny_builtin entry_list_iadd' ?_⟩))
  show wpAny _ _ (Builtin.List.listExtendWith (.ref s.heap.objs.size) (.ref l) (.ref s.heap.objs.size)) _ _ { s with heap := s.heap.push (seqObj "list" #[] 0) }
  unfold Builtin.List.listExtendWith
  have ho' : (s.heap.push (seqObj "list" #[] 0)).get? l = some o := Heap.get?_push_of_some _ ho
  refine wpAny_bind (wpAny_typeOf (T := "tuple") ⟨o, ho', hc⟩ ?_)
  have ht : (Value.type "tuple" == Value.type "tuple") = true := by rfl
  rw [if_pos (by rw [ht]; simp)]
  refine wpAny_bind (listItems_at ho' hd ?_)
  refine wpAny_bind (listItems_at (xs := #[]) (n := 0) (Heap.get?_push_size _ rfl) rfl ?_)
  rw [if_neg (by simp)]
  refine wpAny_bind (listUpdate_at (xs := #[]) (n := 0) (Heap.get?_push_size _ rfl) rfl ?_ (Nat.zero_le _) (by show (#[] ++ vs.toArray).size ≤ sizeLine + 1; simp only [Array.size_append, List.size_toArray, List.length_nil]; omega))
  refine wpAny_pure ?_
  show wpAny (model prog w) A (do
      let o ← load s.heap.objs.size
      match o.data with
      | .seq xs _ => pure xs.toList
      | _ => unsupported "internal:collect") Q E { s with heap := (s.heap.push (seqObj "list" #[] 0)).update s.heap.objs.size (Obj.mapSeq (· ++ vs.toArray)) }
  refine wpAny_bind (wpAny_load (get?_update_seq (Heap.get?_push_size _ rfl) _) ?_)
  show wpAny _ _ (pure ((#[] : Array Value) ++ vs.toArray).toList) Q E _
  rw [show ((#[] : Array Value) ++ vs.toArray).toList = vs by simp]
  exact wpAny_pure h
theorem sorted_ordT {l : Addr} {vs : List Value} {ltv : Value → Value → Bool} {Q : Value → Shared → Prop} (O : SrtO.Swo ltv) (hl : s.heap.IsTuple l vs.toArray) (hz : vs.length ≤ sizeLine)
    (hS : 2 ≤ vs.length → ∀ (h₁ : Heap) (a : Addr), h₁.get? a = some (seqObj "list" vs.toArray 0) → (∀ b o, s.heap.get? b = some o → b ≠ a ∧ h₁.get? b = some o) → SrtO.SortableO prog w A.in1.in1 { s with heap := h₁ } a vs ltv)
    (h : ∀ out : List Value, SrtO.Srtd ltv out → SrtO.Stb ltv out vs → Q (.ref (s.heap.objs.size + 1)) { s with heap := sortedAll s.heap vs out.toArray }) :
    wpAny (model prog w) A (call (.builtin "sorted") [.ref l]) Q E s := by
  refine Calls.call_function_entry kind_sorted plain_sorted entry_sorted (args_sorted1 _) ?_
  unfold Builtin.«sorted»
  refine wpAny_bind (m := checkCount "sorted" 1 1 _) (wpAny_pure ?_)
  refine wpAny_bind (collect_tup hl ?_ hz)
  refine wpAny_bind (wpAny_newList ?_ hz)
  have hsz : ((s.heap.push (seqObj "list" #[] 0)).update s.heap.objs.size (Obj.mapSeq (· ++ vs.toArray))).objs.size = s.heap.objs.size + 1 := by
    rw [Heap.size_update, size_push']
  have hoL : (((s.heap.push (seqObj "list" #[] 0)).update s.heap.objs.size (Obj.mapSeq (· ++ vs.toArray))).push (seqObj "list" vs.toArray 0)).get? (s.heap.objs.size + 1) = some (seqObj "list" vs.toArray 0) := by
    rw [← hsz]; exact Heap.get?_push_size _ rfl
  have keep : ∀ b o, s.heap.get? b = some o → b ≠ s.heap.objs.size + 1 ∧ (((s.heap.push (seqObj "list" #[] 0)).update s.heap.objs.size (Obj.mapSeq (· ++ vs.toArray))).push (seqObj "list" vs.toArray 0)).get? b = some o := fun b o q => by
    have hlt : b < s.heap.objs.size := Heap.lt_size q
    refine ⟨Nat.ne_of_lt (Nat.lt_succ_of_lt hlt), Heap.get?_push_of_some _ ?_⟩
    rw [Heap.get?_update_ne _ _ _ _ (Nat.ne_of_lt hlt)]
    exact Heap.get?_push_of_some _ q
  show wpAny _ _ _ _ _ { s with heap := ((s.heap.push (seqObj "list" #[] 0)).update s.heap.objs.size (Obj.mapSeq (· ++ vs.toArray))).push (seqObj "list" vs.toArray 0) }
  rw [hsz]
  refine wpAny_bind (wpAny_holding (wpAny_call_entry slot_list_sort ⟨_, hoL, rfl⟩ entry_list_sort (SrtO.list_sort_ord O hoL hz (fun h2 => hS h2 _ _ hoL keep) fun out hs hb => ⟨_, rfl, ?_⟩) (args_list_sort _)))
  exact wpAny_pure ⟨_, rfl, h out hs hb⟩
end
/-- sorted of a list or a tuple of ints -/
def rSrtA (K : PySem.W.Frag) : List V → Hp → VK → Prop := fun vs H Q => ∃ (a : Addr) (ns : List Int), vs = [V.ref a] ∧ SqT K H a (ns.map V.int) ∧
  ∀ (ns' : List Int) (p : Addr), ns'.Perm ns → ns'.Pairwise (· ≤ ·) → H p = none → Q (.ref p) (upd H p (.lst (ns'.map V.int)))
theorem srtT {X : Cx} (K : PySem.W.Frag) (hK : X.K = K := by rfl) : CallR X (.builtin "sorted") (rSrtA K) := by
  subst hK
  intro pins s σ H vs us Q I r h
  obtain ⟨a, ns, rfl, hs, q⟩ := h
  obtain ⟨its, rv, hl, hz⟩ := I.tuple hs
  rw [Vals.ref1 r]
  have hi := rv.ints
  refine sorted_ordT SrtO.swo_int hl (by rw [← rv.length]; exact hz) (fun h2 h₁ a' _ _ => SrtO.ints_sortable hi h2) fun out h1 h2 => ?_
  obtain ⟨k1, k2, k3⟩ := SrtO.ints_out hi h1 h2
  obtain ⟨ep, he'⟩ := PyProof.Rows.sortedAll_at s.heap its out.toArray
  have hlen : ((out.map SrtO.iv).map V.int).length ≤ sizeLine := by
    rw [List.length_map, k2.length_eq]
    rw [List.length_map] at hz
    exact hz
  exact ⟨.ref _, upd H (s.heap.objs.size + 1) (.lst ((out.map SrtO.iv).map V.int)), I.laid (t' := s.toks) (fun _ _ => PyProof.Rows.sortedAll_old) (Nat.le_succ _) ⟨hlen, out, ep, vals_of_ints k1, he'⟩, rfl, q _ _ k2 k3 (I.hok.fresh (Nat.le_succ _))⟩
/-! ### len(set(tuple of ints)) -/
theorem nodup_le : ∀ {l m : List Int}, l.Nodup → l ⊆ m → l.length ≤ m.length
  | [], m, _, _ => Nat.zero_le _
  | a :: l, m, n, h => by
    have hn := List.nodup_cons.mp n
    have ha : a ∈ m := h (by simp)
    have hs : l ⊆ m.erase a := fun z hz => (List.mem_erase_of_ne (fun e : z = a => hn.1 (by rw [← e]; exact hz))).mpr (h (by simp [hz]))
    have ih := nodup_le hn.2 hs
    rw [List.length_erase_of_mem ha] at ih
    have : 0 < m.length := List.length_pos_of_mem ha
    rw [List.length_cons]
    omega
theorem nodup_len {l m : List Int} (n : l.Nodup) (h1 : l ⊆ m) (h2 : m ⊆ l) : l.length = m.length ↔ m.Nodup := by
  constructor
  · intro e
    apply Classical.byContradiction
    intro hm
    have hc : ∃ a, 1 < m.count a := by
      apply Classical.byContradiction
      intro hx
      exact hm (List.nodup_iff_count.mpr fun a => by
        apply Classical.byContradiction
        intro z
        exact hx ⟨a, by omega⟩)
    obtain ⟨a, ha⟩ := hc
    have ham : a ∈ m := List.count_pos_iff.mp (by omega)
    have hs : l ⊆ m.erase a := fun z hz => by
      by_cases e2 : z = a
      · subst e2
        refine List.count_pos_iff.mp ?_
        rw [List.count_erase_self]
        omega
      · exact (List.mem_erase_of_ne e2).mpr (h1 hz)
    have ih := nodup_le n hs
    rw [List.length_erase_of_mem ham] at ih
    have : 0 < m.length := List.length_pos_of_mem ham
    omega
  · intro hm
    have a1 := nodup_le n h1
    have a2 := nodup_le hm h2
    omega
def tLenSetT (K : PySem.W.Frag) (ta : TE) : TE := fun σ H Q => ta σ H fun x H1 => ∃ (a : Addr) (ns : List Int), x = .ref a ∧ SqT K H1 a (ns.map V.int) ∧ ns.length ≤ 1000 ∧ ∀ c : Nat, (c = ns.length ↔ ns.Nodup) → Q (.int (c : Nat)) H1
theorem pe_lenSetT {X : Cx} {K : PySem.W.Frag} {a : Expr} {ta : TE} {p p2 q pos : Pos} (hc : X.calm = true) (hg : Gl X "len") (hm : X.mg "len" = none) (hg2 : Gl X "set") (hm2 : X.mg "set" = none) (ha : PE X a ta) (hK : X.K = K := by rfl)
    (na : starEach [a] X.env = (false, eval a X.env) :: starEach [] X.env := by rfl) : PE X (.Call (.Name "len" p) [.Call (.Name "set" p2) [a] [] q] [] pos) (tLenSetT K ta) := by
  subst hK
  refine ⟨fun pins s σ H Q I h => ?_⟩
  refine Call_ (ld_blt I hg hm boot_len ?_)
  refine PyProof.Rows.callWith_builtin1 (PyProof.Rows.args_cons ?_ rfl) rfl rfl
  refine Call_ (ld_blt I hg2 hm2 boot_set ?_)
  refine PyProof.Rows.callWith_type1 (PyProof.Rows.args_cons (thn (ha.run pins s σ H _ I h) fun v s1 ⟨x, H1, I1, r1, q1⟩ => PyProof.Rows.args_nil ?_) na) na rfl
  obtain ⟨l, ns, rfl, hq, hl, q1⟩ := q1
  cases r1
  obtain ⟨its, rv, pt, hz⟩ := I1.tuple hq
  have hi : IntsAre its.toArray.toList ns := rv.ints
  have hd := I1.ok.hd hc
  refine call_set_tupI ns hd pt hi (by unfold scanBound; omega) fun h' tk c R1 hcn k => ?_
  obtain ⟨o, es, ep, t, ho, hex, hdt, g, nd, hm2, hb, hf, hn, hr, hl2⟩ := R1
  refine PyProof.Rows.args_nil ?_
  have I2 : Inv X pins σ H1 { s1 with heap := h', toks := tk } := I1.kept fun b o e => k b o e
  have hnn : c = ns.length ↔ ns.Nodup := by
    have e0 : (es.toList.map keyOf).length = c := by rw [List.length_map, Array.length_toList, hn]
    have mem : ∀ z, z ∈ es.toList.map keyOf ↔ z ∈ ns := fun z => by
      have y := hm2 z
      rw [decide_eq_true_eq] at y
      exact y.symm
    have e1 : es.toList.map keyOf ⊆ ns := fun z hz => (mem z).mp hz
    rw [← e0]
    exact nodup_len nd e1 fun z hz => (mem z).mpr hz
  refine call_len_set ho hex hdt hf (by rw [hn]; have := hcn; omega) ⟨.int (c : Nat), H1, I2.tok _, ⟨_, by rw [hn]⟩, q1 c hnn⟩
/-! ### enumerate(tuple) -/
theorem meets_enumerate_newT (l : Addr) (items : Array Value) (n : Nat) (dct : Option Addr) (sl : Array (Option Value)) :
    Meets (Builtin.«enumerate.__new__» ⟨[.type "enumerate", .ref l], []⟩) (fun _ R s => s.heap.get? l = some { cls := .type "tuple", dict := dct, data := .seq items n, slots := sl } ∧
      R (.ok (.ret (.ref (s.heap.push { cls := .type "tuple_iterator", data := .fields #[.ref l, .int 0 0] }).objs.size)))
        { s with heap := (s.heap.push { cls := .type "tuple_iterator", data := .fields #[.ref l, .int 0 0] }).push { cls := .type "enumerate", data := .fields #[.none, .bool false, .ref s.heap.objs.size, rawInt 0, .none, .none] } }) :=
  .of_wp fun prog w A R s h => by
    obtain ⟨hp, g, d, tk, os⟩ := s; obtain ⟨hl, h⟩ := h
    have hsub := sub_enumerate
    have hL : Heap.IsTuple (Shared.heap ⟨hp, g, d, tk, os⟩) l items := ⟨_, hl, rfl, n, rfl⟩
    wp_walk using AutoSeq1.wpAny_loadPart' hl
    refine wpAny_stack_any fun st => wpAny_pure ?_
    split
    · rename_i c _ _ _ _ _
      cases (c == Value.type "enumerate")
      · wp_walk using AutoSeq1.wpAny_loadPart' hl, wpAny_pyIter_tuple hL
        exact ⟨_, rfl, h⟩
      · wp_walk using AutoSeq1.wpAny_loadPart' hl, wpAny_pyIter_tuple hL
        exact ⟨_, rfl, h⟩
    · wp_walk using AutoSeq1.wpAny_loadPart' hl, wpAny_pyIter_tuple hL
      exact ⟨_, rfl, h⟩
theorem call_enumerate_tup {prog : Program} {w : World} {A : Around} {E : Value → Shared → Prop} {s : Shared} {l : Addr} {items : Array Value} {Q : Value → Shared → Prop} (hL : s.heap.IsTuple l items)
    (h : ∀ h', IsEnum h' (s.heap.objs.size + 1) s.heap.objs.size 0 .none → h'.IsTupleIter s.heap.objs.size l 0 → h'.objs.size = s.heap.objs.size + 2 →
      (∀ b o, s.heap.get? b = some o → h'.get? b = some o) → Q (.ref (s.heap.objs.size + 1)) { s with heap := h' }) :
    wpAny (model prog w) A (call (.type "enumerate") [.ref l]) Q E s := by
  obtain ⟨⟨c, dct, dt, sl⟩, hl, hc, n, hd⟩ := hL
  replace hc : c = .type "tuple" := hc
  replace hd : dt = .seq items n := hd
  subst hc hd
  refine callType_new F.called_enumerate (by decide) (F.typeCall_enumerate_1 _) (F.newCall_enumerate_1 _) (fun obj => F.args_object_init_2 obj _) F.entry_enumerate_new
    (meets_enumerate_newT l items n dct sl) ⟨hl, ?_⟩
  have hz : (s.heap.push { cls := .type "tuple_iterator", data := .fields #[.ref l, .int 0 0] }).objs.size = s.heap.objs.size + 1 := Heap.size_push ..
  show _ ∧ _
  rw [hz]
  have he : IsEnum ((s.heap.push { cls := .type "tuple_iterator", data := .fields #[.ref l, .int 0 0] }).push
      { cls := .type "enumerate", data := .fields #[.none, .bool false, .ref s.heap.objs.size, rawInt 0, .none, .none] }) (s.heap.objs.size + 1) s.heap.objs.size 0 .none := by
    have := Heap.get?_push_size (s.heap.push { cls := .type "tuple_iterator", data := .fields #[.ref l, .int 0 0] })
      (o := { cls := .type "enumerate", data := .fields #[.none, .bool false, .ref s.heap.objs.size, rawInt 0, .none, .none] }) rfl
    rw [hz] at this; exact this
  refine ⟨⟨_, he, rfl⟩, h _ he ⟨_, Heap.get?_push_of_some _ (Heap.get?_push_size _ rfl), rfl, rfl⟩ (by rw [Heap.size_push, hz]) fun b o x => Heap.get?_push_of_some _ (Heap.get?_push_of_some _ x)⟩
def IteT (K : PySem.W.Frag) (a : Addr) : It :=
  ⟨fun i H => ∃ (xs : List V) (x : V), SqT K H a xs ∧ xs[i]? = some x, fun i H v H' => ∃ T x, v = .ref T ∧ H T = none ∧ H' = upd H T (.tup [.int (i : Nat), x]) ∧ ∀ xs, SqT K H a xs → xs[i]? = some x, fun i H => ∃ xs : List V, SqT K H a xs ∧ xs.length ≤ i⟩
theorem turn_enumT {P : Program} {w : World} {K : PySem.W.Frag} {elts : List Expr} {kk : Nat} {tpos : Pos} (a e it : Addr) :
    Turn P w K (.Tuple elts kk tpos) (IteT K a) [e, it] e (fun i h => (∃ old, IsEnum h e it ((i : Nat) : Int) old) ∧ h.IsTupleIter it a i ∧ e ≠ it ∧ a ≠ it) where
  mem := by simp
  obj := fun i h st b hb => by
    obtain ⟨⟨old, he⟩, ⟨o, ho, hc, hd⟩, _⟩ := st
    have e' : b = e ∨ b = it := by simpa using hb
    rcases e' with z | z
    · rw [z]; exact ⟨_, he, fun v q => nomatch q⟩
    · rw [z]; exact ⟨o, ho, fun v q => by rw [hd] at q; cases q⟩
  keep := fun i h h' st k => let ⟨⟨old, he⟩, hi, hne, hn2⟩ := st; ⟨⟨old, k e (by simp) _ he⟩, hi.at fun o q => k it (by simp) o q, hne, hn2⟩
  item := by
    intro X hP hw hK hc i pins s σ H E I hf st hg
    subst hP hw hK
    obtain ⟨⟨old, he⟩, hit, hne, hn2⟩ := st
    obtain ⟨xs, x, hq, hx⟩ := hg
    obtain ⟨its, rv, p, hz⟩ := I.tuple hq
    obtain ⟨u, hu, ru⟩ := rv.get hx
    have hel : e < s.heap.objs.size := Heap.lt_size he
    have hil : it < s.heap.objs.size := by obtain ⟨_, q, _⟩ := hit; exact Heap.lt_size q
    have hlt : i < its.toArray.size := by
      have z := (List.getElem?_eq_some_iff.mp hu).1
      simpa using z
    have hae : a ≠ e := fun z => by
      obtain ⟨o, ho, hc2, _⟩ := p
      have he2 : s.heap.get? e = some _ := he
      rw [z, he2] at ho
      have := Option.some.inj ho
      subst this
      exact absurd (show Value.type "enumerate" = Value.type "tuple" from hc2) (by decide)
    refine wpAny_pyNext_enum_itemD (Draws.tuple (A := X.A.in1) (I.ok.hd hc) it a hn2 its.toArray) he ⟨hit, p⟩ hlt hne (by simp [hne, hae.symm]) fun x' h' tk hx' ho hst' hT hsz hk => ?_
    obtain ⟨hit', p'⟩ := hst'
    have exu : x' = u := by
      have z : its.toArray[i]? = some u := by simpa using hu
      rw [z] at hx'
      exact (Option.some.inj hx').symm
    subst exu
    refine ⟨_, rfl, wpAny_letOwnedTupleGo_enum (s := { s with heap := h', toks := tk + 1 }) ho fun h'' he' sb => ?_⟩
    have hT2 : h''.get? s.heap.objs.size = some { cls := .type "tuple", data := .seq #[.int i tk, x'] } := (sb.2 _ (Nat.ne_of_gt hel)).trans hT
    have new : ObjOk X.prog X.w (upd H s.heap.objs.size (.tup [.int (i : Nat), x])) h'' s.heap.objs.size (.tup [.int (i : Nat), x]) :=
      ⟨by show 2 ≤ sizeLine; decide, [.int i tk, x'], .cons ⟨_, rfl⟩ (.cons ru .nil), ⟨_, hT2, rfl, _, rfl⟩⟩
    have I1 : Inv X pins σ (upd H s.heap.objs.size (.tup [.int (i : Nat), x])) { s with heap := h'', toks := tk + 1 } :=
      I.turnedNew (ch := [e, it]) (fun b ob hb q => (sb.2 b (fun z => hb (by simp [z]))).trans (hk b ob (fun z => hb (by simp [z])) (fun z => hb (by simp [z])) q)) hf (Nat.le_refl _) new
    refine ⟨.ref s.heap.objs.size, _, I1, rfl, ⟨_, x, rfl, I.hok.fresh (Nat.le_refl _), rfl, fun ys hy => by rw [I.tuple_inj hy hq]; exact hx⟩, ⟨⟨x', ?_⟩, hit'.at fun o q => (sb.2 it (Ne.symm hne)).trans q, hne, hn2⟩, fun b hb => ?_⟩
    · have e1 : ((i + 1 : Nat) : Int) = (i : Int) + 1 := by omega
      rw [e1]; exact he'
    · have hb' : b < s.heap.objs.size := by
        have e' : b = e ∨ b = it := by simpa using hb
        rcases e' with z | z
        · rw [z]; exact hel
        · rw [z]; exact hil
      rw [upd_ne (Nat.ne_of_lt hb')]
      exact (hf b hb).1
  done := by
    intro X hP hw hK hc i pins s σ H E I hf st hg
    subst hP hw hK
    obtain ⟨⟨old, he⟩, hit, hne, hn2⟩ := st
    obtain ⟨xs, hq, hx⟩ := hg
    obtain ⟨its, rv, p, hz⟩ := I.tuple hq
    obtain ⟨f0, f1, f2, f3, f4, f5⟩ := hf it (by simp)
    have hl := rv.length
    have hT : s.TypeIs (.ref e) "enumerate" := ⟨_, he, rfl⟩
    unfold pyNext
    refine wpAny_bind (wpAny_attempt (wpAny_callSpecial?_slot (name := Str.ofString "__next__") hT F.slot_enumerate_next
      (wpAny_call_entry F.slot_enumerate_next hT F.entry_enumerate_next ?_ (F.args_enumerate_next_1 _))))
    show wpAny _ _ (field (.ref e) 2 >>= _) _ _ _
    refine wpAny_bind (wpAny_field he rfl (x := .ref it) rfl ?_)
    refine wpAny_bind (wpAny_nextOf_tuple_end (I.ok.hd hc) hit p (by simp; omega) fun h' x he' hx' => ?_)
    obtain ⟨o, ho, hc3⟩ := hx'
    refine wpAny_bind (wpAny_isInstance (T := "StopIteration") (b := true) ⟨o, ho, hc3⟩ isSubtype_stop ?_)
    exact wpAny_pure ⟨rfl, I.turned (t' := s.toks) (fun b o hb q => he' b o hb q) f0 f1 f3 f4 f5⟩
  self := fun A i s Q E st h => let ⟨⟨_, he⟩, _⟩ := st; wpAny_pyIter_enum he h
def iEnumT (K : PySem.W.Frag) (ta : TA) : TI := fun σ H R => ta σ H fun vs H1 => ∃ a xs, vs = [.ref a] ∧ SqT K H1 a xs ∧ R (IteT K a) H1
theorem pi_enumT {X : Cx} {K : PySem.W.Frag} {e : Expr} {ta : TA} {p pos tpos : Pos} {elts : List Expr} {kk : Nat} (hg : Gl X "enumerate") (hm : X.mg "enumerate" = none) (ha : PA X [e] ta) (hK : X.K = K := by rfl) (hs : starEach [e] X.env = [(false, eval e X.env)] := by rfl) :
    PI X (.Tuple elts kk tpos) (.Call (.Name "enumerate" p) [e] [] pos) (iEnumT K ta) := by
  subst hK
  refine ⟨fun pins s σ H R I h => ?_⟩
  refine Call_ (ld_blt I hg hm boot_enumerate (PyProof.Rows.callWith_type1 (thn (ha.run pos pins s σ H _ I h) fun us s1 ⟨vs, H1, I1, r1, q1⟩ => ?_) hs rfl))
  obtain ⟨a, xs, ex, hq, q⟩ := q1
  subst ex
  cases r1 with
  | cons r rr =>
    cases rr
    cases r
    obtain ⟨its, rv, p', hz⟩ := I1.tuple hq
    have hal : a < s1.heap.objs.size := by obtain ⟨_, z, _⟩ := p'; exact Heap.lt_size z
    refine call_enumerate_tup p' fun h' he hit hsz hk => wpAny_pyIter_enum he ?_
    have I2 : Inv X pins σ H1 { s1 with heap := h' } := I1.kept (t' := s1.toks) hk
    refine ⟨s1.heap.objs.size + 1, [s1.heap.objs.size + 1, s1.heap.objs.size], _, _, H1, rfl, I2, turn_enumT a (s1.heap.objs.size + 1) s1.heap.objs.size, ⟨⟨.none, he⟩, hit, Nat.succ_ne_self _, Nat.ne_of_lt hal⟩, fun b hb => ?_, q⟩
    have e' : b = s1.heap.objs.size + 1 ∨ b = s1.heap.objs.size := by simpa using hb
    have hle : s1.heap.objs.size ≤ b := by
      rcases e' with z | z
      · rw [z]; exact Nat.le_add_right _ _
      · rw [z]; exact Nat.le_refl _
    exact I1.fpOk hle (I1.hok.fresh hle)
/-! ### f(k = e, ..): by keywords alone -/
section
variable {X : Cx} {CX : CXT} {k : Nat} {f : Addr} {fd : FuncData} {ps ks : List Str} {sp : Sp} {E : XK} {x : Str} {p pos : Pos} {g : List Value → List Value → List Value} {gV : List V → List V → List V} {kws : List Keyword} {tk : TA}
theorem pe_callKO (F : FnOk X.prog X.w X.K X.mg X.base CX k f fd ps sp) (hr : Room k X.A) (hg : Gl X x) (hm : X.mg x = some (.ref f)) (hk : PySem.W.keepIn X.K (.ref f) = true) (hb : KBinds X.K fd ps ks g gV) (hx : Passes CX X E)
    (hkw : PK X kws tk) (hall : (backToKw pos (keywordEach kws X.env)).all (·.1.isSome) = true := by rfl) (hks : (backToKw pos (keywordEach kws X.env)).filterMap (·.1) = ks := by rfl)
    (hdb : (x == ("__debug__" : Str)) = false := by decide)
    (hpl : ((backTo pos (starEach [] X.env)).any (·.1) || (backToKw pos (keywordEach kws X.env)).any (·.1.isNone)) = false := by rfl) :
    PE X (.Call (.Name x p) [] kws pos) (tCallK sp gV E tNil tk) := by
  refine ⟨fun pins s σ H Q I h => ?_⟩
  refine wpAny_Call_Name_kw (ld_glob I hg hm ?_ hdb)
  refine PySem.W.callWith_KW0 (h₀ := X.base) I.ok.mod.kin hk hall ?_ hpl
  have h : tk σ H fun zs H2 => sp (gV [] zs) H2 Q E := h
  refine thn (hkw.run pos pins s σ H _ I h) fun ws s2 ⟨zs, H2, I2, rz, q2⟩ => ⟨I2.kIn, ?_⟩
  rw [hks]
  exact run_fnk F hr hb hx I2 .nil rz q2
end

/-! ### books as data -/
def bookD (n : Int) (rows : List (List Int)) : PyData := .tuple [.int n, .tuple (rows.map dTup)]
def isListed (n : Int) (d : PyData) : Bool := isLot n d && decide (2 ≤ (dInts d).length)
def isBook : PyData → Bool
  | .tuple [.int n, .tuple ls] => decide (1 ≤ n) && ls.all (isListed n)
  | _ => false
def tiedB (rows : List (List Int)) (x y : Int) : Bool := rows.any fun r => decide (x ∈ r) && decide (y ∈ r)
def isTie (n : Int) (rows : List (List Int)) (d : PyData) : Bool := isLot n d && decide ((dInts d).length = 2) && tiedB rows ((dInts d).getD 0 0) ((dInts d).getD 1 0)
def tiedAll (rows : List (List Int)) : List Int → Bool
  | [] => true
  | [_] => true
  | a :: b :: r => tiedB rows a b && tiedAll rows (b :: r)
def isRow (n : Int) (rows : List (List Int)) (d : PyData) : Bool := isLot n d && decide (2 ≤ (dInts d).length) && tiedAll rows (dInts d)
theorem rp_book {K : PySem.W.Frag} {H : Hp} {v : V} {n : Int} {rows : List (List Int)} (h : Rp K H v (bookD n rows)) :
    ∃ b L xs, v = .ref b ∧ SqT K H b [.int n, .ref L] ∧ SqT K H L xs ∧ xs.length ≤ 1000 ∧ RpAll K H xs (rows.map dTup) := by
  unfold bookD at h
  cases h with
  | tup s l r =>
    cases r with
    | cons r1 r =>
      cases r1
      cases r with
      | cons r2 r =>
        cases r
        cases r2 with
        | tup s2 l2 r2 => exact ⟨_, _, _, rfl, s, s2, l2, r2⟩
theorem RpAll.row {K : PySem.W.Frag} {H : Hp} {xs : List V} {rows : List (List Int)} {i : Nat} {x : V} (r : RpAll K H xs (rows.map dTup)) (h : xs[i]? = some x) : ∃ ns a, rows[i]? = some ns ∧ x = .ref a ∧ TupI K H a ns := by
  obtain ⟨d, hd, rd⟩ := r.get h
  rw [List.getElem?_map] at hd
  cases e : rows[i]? with
  | none => rw [e] at hd; cases hd
  | some ns =>
    rw [e] at hd
    have ed := (Option.some.inj hd).symm
    subst ed
    obtain ⟨a, rfl, t⟩ := rd.tupI
    exact ⟨ns, a, rfl, rfl, t⟩
theorem inV_int (x : Int) : ∀ ns : List Int, inV (.int x) (ns.map V.int) = decide (x ∈ ns)
  | [] => rfl
  | n :: ns => by
    have ih := inV_int x ns
    unfold inV at ih ⊢
    rw [List.map_cons, List.any_cons, ih]
    have e : eqV (.int n) (.int x) = decide (n = x) := by
      unfold eqV
      rfl
    rw [e]
    by_cases c : n = x
    · simp [c]
    · have c' : ¬ x = n := fun z => c z.symm
      simp [c, c']
theorem flat_ints (ns : List Int) : (ns.map V.int).all flatV = true := by
  rw [List.all_map]
  exact List.all_eq_true.mpr fun _ _ => rfl
theorem any_range {α : Type} (p : α → Bool) (z : α) : ∀ l : List α, ((List.range l.length).map fun j => p (l.getD j z)).any id = l.any p
  | [] => rfl
  | x :: l => by
    rw [List.length_cons, range_succ_map, List.any_cons, List.any_cons, ← any_range p z l]
    rfl
theorem tiedAll_all (rows : List (List Int)) : ∀ ns : List Int, ((List.range (ns.length - 1)).map fun j => tiedB rows (ns.getD j 0) (ns.getD (j + 1) 0)).all id = tiedAll rows ns
  | [] => rfl
  | [_] => rfl
  | a :: b :: r => by
    have ih := tiedAll_all rows (b :: r)
    have e : (a :: b :: r).length - 1 = ((b :: r).length - 1) + 1 := by simp
    rw [e, range_succ_map, List.all_cons]
    show (tiedB rows a b && _) = (tiedB rows a b && tiedAll rows (b :: r))
    rw [← ih]
    rfl
section
variable (K : PySem.W.Frag)
def spTied : Sp := fun vs H Q _ => ∃ v x y n rows, vs = [v, .int x, .int y] ∧ Rp K H v (bookD n rows) ∧ ∀ H', Same H H' → Q (.bl (tiedB rows x y)) H'
def spBB0 (g : Int → List (List Int) → PyData → Bool) : Sp := fun vs H Q _ => ∃ v u d n rows, vs = [v, u] ∧ Rp K H v (bookD n rows) ∧ Rp K H u d ∧ Q (.bl (g n rows d)) H
def spBB (g : Int → List (List Int) → PyData → Bool) : Sp := fun vs H Q _ => ∃ v u d n rows, vs = [v, u] ∧ Rp K H v (bookD n rows) ∧ Rp K H u d ∧ ∀ H', Same H H' → Q (.bl (g n rows d)) H'
def spB (g : PyData → Bool) : Sp := fun vs H Q _ => ∃ v d, vs = [v] ∧ Rp K H v d ∧ ∀ H', Same H H' → Q (.bl (g d)) H'
end
end LK
namespace LK
open PySem PySem.Spec PyProof.Rows L2
theorem catA {X : Cx} (K : PySem.W.Frag) (h : X.K = K := by rfl) : OpR X (binaryOp .Add) (rCatA K) := h ▸ op_catA
/-! ### raising -/
/-- the exception class at C is raised with this word and place -/
def Rz (C : Addr) (E : XK) (H : Hp) (word : Str) (at_ : Int) : Prop := ∀ d H', Same H H' → H' d = some (.xd [("at", .int at_), ("word", .str word)]) → E (.ref C) (some d) H'
theorem Rz.same {C : Addr} {E : XK} {H H1 : Hp} {word : Str} {at_ : Int} (r : Rz C E H word at_) (s : Same H H1) : Rz C E H1 word at_ := fun d H' s' h => r d H' (s.trans s') h
/-- what C.__init__(self, word, at) leaves -/
def spInit2 (C : Addr) : Sp := fun vs H Q _ => ∃ a w t, vs = [.ref a, w, t] ∧ H a = some (exo a C none) ∧
  ∀ dx, H dx = none → dx ≠ a → Q .non (upd (upd (upd H dx (exd dx [("word", w)])) a (exo a C (some dx))) dx (exd dx [("at", t), ("word", w)]))
/-- the reading of raise C(word, at) -/
theorem raise2 {C : Addr} {σ : L2.St} {H : Hp} {ta : TA} {E : XK} {word : Str} {at_ : Int} (h : Rz C E H word at_) (ha : ∀ Q, Q [V.str word, V.int at_] H → ta σ H Q) :
    tMkO C (spInit2 C) [] ta σ H fun cls d H' => E cls d H' := by
  refine ha _ ⟨(by show 2 ≤ 1000; decide), fun a hn => ⟨a, .str word, .int at_, rfl, upd_same, fun dx hd hda => ⟨rfl, dx, _, ?_, upd_same, ?_, ?_⟩⟩⟩
  · rw [upd_ne (Ne.symm hda), upd_same]
  · rw [upd_ne hda] at hd
    exact hd
  · refine h dx _ (fun b o e => ?_) upd_same
    rw [upd_ne hda] at hd
    have hb : b ≠ a := ne_of_none e hn
    have hb2 : b ≠ dx := ne_of_none e hd
    rw [upd_ne hb2, del_ne hb, upd_ne hb2, upd_ne hb, upd_ne hb2, upd_ne hb]
    exact e
/-- what a def hands back or raises -/
def Out (K : PySem.W.Frag) (C : Addr) (Q : VK) (E : XK) (H : Hp) : Except (Str × Int) PyData → Prop
  | .ok d => ∀ v H', Same H H' → Rp K H' v d → Q v H'
  | .error (w, a) => Rz C E H w a
def spNeed (C : Addr) : Sp := fun vs H Q E => ∃ b word, vs = [.bl b, .str word] ∧ (b = true → Q .non H) ∧ (b = false → Rz C E H word (-1))
/-- a def of a book and one more value -/
def spX (K : PySem.W.Frag) (C : Addr) (ok : Int → List (List Int) → PyData → Prop) (g : Int → List (List Int) → PyData → Except (Str × Int) PyData) : Sp :=
  fun vs H Q E => ∃ v u d n rows, vs = [v, u] ∧ Rp K H v (bookD n rows) ∧ Rp K H u d ∧ ok n rows d ∧ Out K C Q E H (g n rows d)

/-! ### the mirror of bookchanges -/
def srt (l : List Int) : List Int := l.mergeSort fun a b => decide (a ≤ b)
theorem srt_perm (l : List Int) : (srt l).Perm l := List.mergeSort_perm l _
theorem srt_pw (l : List Int) : (srt l).Pairwise (· ≤ ·) := by
  have h := List.pairwise_mergeSort (le := fun a b : Int => decide (a ≤ b)) (fun a b c h1 h2 => by simp at *; omega) (fun a b => by simp; omega) l
  exact h.imp fun h => by simpa using h
theorem srt_eq {l ns : List Int} (p : ns.Perm l) (h : ns.Pairwise (· ≤ ·)) : ns = srt l :=
  List.Perm.eq_of_pairwise (fun x y _ _ h1 h2 => Int.le_antisymm h1 h2) h (srt_pw l) (p.trans (srt_perm l).symm)
theorem srt_length (l : List Int) : (srt l).length = l.length := (srt_perm l).length_eq
def keptRow (lot r : List Int) : List Int := (r.filter fun x => decide (x ∈ lot)).map fun x => ((lot.idxOf x : Nat) : Int)
def keptRows (lot : List Int) (rows : List (List Int)) : List (List Int) := (rows.map (keptRow lot)).filter fun r => decide (2 ≤ r.length)
def keptTo (n : Int) (rows : List (List Int)) (d : PyData) : Except (Str × Int) PyData :=
  if isLot n d && decide (0 < (dInts d).length) then .ok (bookD (dInts d).length (keptRows (dInts d) rows)) else .error ("lot", -1)
def withList (n : Int) (rows : List (List Int)) (d : PyData) : Except (Str × Int) PyData :=
  if areUnlike n d && decide (2 ≤ (dInts d).length) then .ok (bookD n (rows ++ [srt (dInts d)])) else .error ("things", -1)
def withoutList (n : Int) (rows : List (List Int)) (d : PyData) : Except (Str × Int) PyData :=
  if isBelow rows.length d then .ok (bookD n (rows.take (toInt d).toNat ++ rows.drop ((toInt d).toNat + 1))) else .error ("listed", -1)
/-- size and lists of a book -/
def bSize : PyData → Int
  | .tuple (.int n :: _) => n
  | _ => 0
def bRows : PyData → List (List Int)
  | .tuple [_, .tuple ls] => ls.map dInts
  | _ => []
def besideB (n : Int) (rows : List (List Int)) (d : PyData) : Except (Str × Int) PyData :=
  if isBook d then .ok (bookD (n + bSize d) (rows ++ (bRows d).map fun r => r.map fun x => n + x)) else .error ("other", -1)
theorem isBook_eq {d : PyData} (h : isBook d = true) : d = bookD (bSize d) (bRows d) := by
  match d, h with
  | .tuple [.int n, .tuple ls], h =>
    unfold isBook at h
    rw [Bool.and_eq_true] at h
    have h2 := h.2
    show PyData.tuple [.int n, .tuple ls] = .tuple [.int n, .tuple ((ls.map dInts).map dTup)]
    have : ls = (ls.map dInts).map dTup := by
      rw [List.map_map]
      have e : ∀ l : List PyData, l.all (isListed n) = true → l = l.map (dTup ∘ dInts) := by
        intro l
        induction l with
        | nil => intro _; rfl
        | cons a l ih =>
          intro hh
          rw [List.all_cons, Bool.and_eq_true] at hh
          rw [List.map_cons, ← ih hh.2]
          have : areBelow n a = true := by
            have := hh.1
            unfold isListed isLot at this
            simp only [Bool.and_eq_true] at this
            exact this.1.1
          show a :: l = dTup (dInts a) :: l
          rw [← areBelow_tup this]
      exact e ls h2
    rw [← this]
/-- the things of line[i] get the number i -/
def renum (line : List Int) (rows : List (List Int)) : List (List Int) := rows.map fun r => srt (r.map fun x => ((line.idxOf x : Nat) : Int))
def rebasedB (n : Int) (rows : List (List Int)) (d : PyData) : Except (Str × Int) PyData :=
  if isLine n d then .ok (bookD n (renum (dInts d) rows)) else .error ("line", -1)
def revRange (n : Nat) : List Int := (List.range n).map fun j => ((n - 1 - j : Nat) : Int)
def mirroredB (n : Int) (rows : List (List Int)) : PyData := bookD n (renum (revRange n.toNat) rows)
/-- the things of the rows are below n -/
def RowsIn (n : Int) (rows : List (List Int)) : Prop := ∀ r ∈ rows, ∀ x ∈ r, 0 ≤ x ∧ x < n

/-! ### answers that are the same each time -/
section
variable {K : PySem.W.Frag} {H : Hp} {Q : VK}
theorem catA_use {a b : Addr} {xs ys : List V} (ha : SqT K H a xs) (hb : SqT K H b ys) (hz : xs.length + ys.length ≤ 2000) (k : ∀ p H', Same H H' → SqT K H' p (xs ++ ys) → Q (.ref p) H') : rCatA K (.ref a) (.ref b) H Q := by
  have hs : (2000 : Nat) ≤ sizeLine := by decide
  refine ⟨a, b, xs, ys, rfl, rfl, ha, hb, Nat.le_trans hz hs, fun e => ?_, fun _ e => ?_, fun _ _ p hp => k p _ (same_upd hp) (SqT.of upd_same)⟩
  · subst e
    exact k b H (Same.refl _) hb
  · subst e
    refine k a H (Same.refl _) ?_
    rw [List.append_nil]
    exact ha
theorem tupL_use {a : Addr} {xs : List V} (ha : SqL K H a xs) (k : ∀ p H', Same H H' → SqT K H' p xs → Q (.ref p) H') : rTupOf K [.ref a] H Q :=
  ⟨a, xs, rfl, .inl ⟨ha, fun p hp => k p _ (same_upd hp) (SqT.of upd_same)⟩⟩
theorem lstT_use {a : Addr} {xs : List V} (ha : SqL K H a xs ∨ SqT K H a xs) (k : ∀ p H', Same H H' → H p = none → H' p = some (.lst xs) → Q (.ref p) H') : rLstOf K [.ref a] H Q :=
  ⟨a, xs, rfl, ha, fun p hp => k p _ (same_upd hp) hp upd_same⟩
theorem slA_use {a : Addr} {xs : List V} {lo hi : Option Int} (ha : SqT K H a xs) (k : ∀ p H', Same H H' → SqT K H' p (cutV xs lo hi) → Q (.ref p) H') : rSlA K (.ref a) lo hi H Q := by
  refine ⟨a, xs, rfl, ha, fun e => ?_, fun _ p hp => k p _ (same_upd hp) (SqT.of upd_same)⟩
  refine k a H (Same.refl _) ?_
  have : cutV xs lo hi = xs := by
    unfold cutV
    rw [e.1, e.2]
    simp
  rw [this]
  exact ha
theorem isi_use {c : String} {v : V} {d : PyData} (h : Rp K H v d) {r : Bool} (e : PySem.W.kitOne K (.type (tyN d)) (.type c) = some r) (k : Q (.bl r) H) : rIsi K [v, .ty c] H Q := ⟨v, .ty c, _, _, r, rfl, .ty _, h.ty, e, k⟩
end
theorem RpAll.one {K : PySem.W.Frag} {H : Hp} {v : V} {d : PyData} (h : Rp K H v d) : RpAll K H [v] [d] := .cons h .nil
theorem RpAll.two {K : PySem.W.Frag} {H : Hp} {v u : V} {d e : PyData} (h : Rp K H v d) (g : Rp K H u e) : RpAll K H [v, u] [d, e] := .cons h (.cons g .nil)
/-- a pair (n, L) that was just laid, L a tuple of rows -/
theorem rp_bookNew {K : PySem.W.Frag} {H : Hp} {L p : Addr} {xs : List V} {n : Int} {rows : List (List Int)} (hL : SqT K H L xs) (hz : xs.length ≤ 1000) (r : RpAll K H xs (rows.map dTup)) (hp : H p = none) :
    Rp K (upd H p (.tup [.int n, .ref L])) (.ref p) (bookD n rows) :=
  .tup (SqT.of upd_same) (by show 2 ≤ 1000; decide) (.two (.int n) ((Rp.tup hL hz r).same (same_upd hp)))
theorem noLs_rows : ∀ rows : List (List Int), noLs (rows.map dTup) = true
  | [] => rfl
  | r :: rows => by
    have h2 := noLs_rows rows
    have h1 : noL (dTup r) = true := by
      show noLs (r.map PyData.int) = true
      refine all_noL fun d hd => ?_
      obtain ⟨x, _, rfl⟩ := List.mem_map.mp hd
      rfl
    rw [List.map_cons]
    unfold noLs
    rw [h1, h2]
    rfl
theorem noL_dTup (r : List Int) : noL (dTup r) = true := by
  show noLs (r.map PyData.int) = true
  refine all_noL fun d hd => ?_
  obtain ⟨x, _, rfl⟩ := List.mem_map.mp hd
  rfl
theorem map_range {α β : Type} (f : α → β) (z : α) : ∀ l : List α, ((List.range l.length).map fun j => f (l.getD j z)) = l.map f
  | [] => rfl
  | x :: l => by
    rw [List.length_cons, range_succ_map, List.map_cons, ← map_range f z l]
    rfl
theorem filter_map_range {α β : Type} (p : α → Bool) (f : α → β) (z : α) : ∀ l : List α, (((List.range l.length).filter fun j => p (l.getD j z)).map fun j => f (l.getD j z)) = (l.filter p).map f
  | [] => rfl
  | x :: l => by
    have ih := filter_map_range p f z l
    rw [List.length_cons, List.range_succ_eq_map, List.filter_cons, List.filter_map, List.filter_cons]
    have e0 : (x :: l).getD 0 z = x := rfl
    have e1 : ((fun j => p ((x :: l).getD j z)) ∘ Nat.succ) = fun j => p (l.getD j z) := rfl
    rw [e0, e1]
    cases p x with
    | true =>
      simp only [if_true, List.map_cons, List.map_map]
      rw [← ih]
      rfl
    | false =>
      simp only [Bool.false_eq_true, if_false, List.map_map]
      rw [← ih]
      rfl

/-! ### tuples whose object is known to have no dict: what has .index -/
def DN (H : Hp) (v : V) : Prop := ∀ a, v = .ref a → ∃ o u, H a = some (.frz o u) ∧ o.dict = none
theorem DN.same {H H' : Hp} {v : V} (h : DN H v) (s : Same H H') : DN H' v := fun a e => by
  obtain ⟨o, u, h1, h2⟩ := h a e
  exact ⟨o, u, s _ _ h1, h2⟩
def rTupN (K : PySem.W.Frag) : List V → Hp → VK → Prop := fun xs H Q => ∃ p ys, xs = [.ref p] ∧ SqL K H p ys ∧ ∀ l o, H l = none → o.dict = none → Q (.ref l) (upd H l (.frz o (.tup ys)))
theorem tupN {X : Cx} (K : PySem.W.Frag) (hK : X.K = K := by rfl) : CallR X (.type "tuple") (rTupN K) := by
  subst hK
  intro pins s σ H xs us Q I r h
  obtain ⟨p, ys, rfl, hq, q⟩ := h
  obtain ⟨u, rfl, rx⟩ := vals1 r
  cases rx
  obtain ⟨its, r', pl, hz⟩ := I.list hq
  have hlen := r'.length
  refine call_tuple_list pl.isList (fun h' kp => ?_) (by simp only [List.size_toArray] <;> omega)
  have I1 : Inv X pins σ H { s with heap := h' } := I.kept (t' := s.toks) kp
  have I2 : Inv X pins σ (upd H h'.objs.size (.frz { cls := .type "tuple", data := .seq its.toArray } (.tup ys))) { s with heap := h'.push { cls := .type "tuple", data := .seq its.toArray } } :=
    I1.laid (t' := s.toks) (fun b o e => Heap.get?_push_of_some _ e) (Nat.le_refl _) (show ObjOk X.prog X.w _ _ _ (.frz _ (.tup ys)) from ⟨Heap.get?_push_size _ rfl, hz, its, r', IsTup.new _ _⟩)
  exact ⟨.ref h'.objs.size, _, I2, rfl, q _ _ (I1.hok.fresh (Nat.le_refl _)) rfl⟩
def tTidx (K : PySem.W.Frag) (to : TE) (t : TA) : TE := fun σ H Q => to σ H fun x H1 => ∃ (a : Addr) (ns : List Int), x = .ref a ∧ SqT K H1 a (ns.map V.int) ∧ DN H1 x ∧ t σ H1 fun vs H2 => ∃ k, vs = [.int k] ∧ SqT K H2 a (ns.map V.int) ∧ k ∈ ns ∧ Q (.int (ns.idxOf k : Nat)) H2
theorem pe_tidx {X : Cx} {K : PySem.W.Frag} {o e : Expr} {to : TE} {t : TA} {apos cpos : Pos} (ho : PE X o to) (ha : PA X [e] t) (hK : X.K = K := by rfl)
    (hbase : attributeBase o "index" X.env (eval o X.env) = eval o X.env := by rfl)
    (hfew : ((backTo cpos (starEach [e] X.env)).all (fun x => !x.1) && (backToKw cpos (keywordEach [] X.env)).all (fun x => x.1.isSome)
      && decide (([e] : List Expr).length + ([] : List Keyword).length + (if ([] : List Keyword).isEmpty then 0 else 1) < 30)) = true := by rfl)
    (hline : (apos.endLine == cpos.line) = true := by rfl) (hs : starEach [e] X.env = (false, eval e X.env) :: starEach [] X.env := by rfl) :
    PE X (.Call (.Attribute o "index" apos) [e] [] cpos) (tTidx K to t) := by
  subst hK
  refine ⟨fun pins s σ H Q I h => ?_⟩
  refine wpAny_Call_method_late hbase hfew hline rfl (thn (ho.run pins s σ H _ I h) fun v s1 ⟨x, H1, I1, r1, a, ns, ex, hq, dn, q1⟩ => ?_)
  subst ex
  cases r1
  obtain ⟨ob, u, hf, hdn⟩ := dn a rfl
  have hob : s1.heap.get? a = some ob := (I1.hok a _ hf).1
  obtain ⟨its, rv, pl, hz⟩ := I1.tuple hq
  obtain ⟨o2, ho2, hc2, _⟩ := id pl
  have ht : s1.TypeIs (.ref a) "tuple" := ⟨o2, ho2, hc2⟩
  refine ⟨"tuple", "tuple.index", PySem.F.plainAttrs_tuple, PySem.F.slot_tuple_index, PySem.F.type_tuple_index, ht, fun b e => by cases e; exact ⟨ob, hob, hdn⟩, ?_⟩
  have hA := ha.run cpos pins s1 σ H1 _ I1 q1
  rw [hs] at hA ⊢
  refine Calls.callWith_builtin rfl (Calls.evalArgs_plain ?_)
  exact thn hA fun us s2 ⟨vs, H2, I2, r2, k, ek, hq2, hk, q2⟩ => by
    subst ek
    exact mt_tidx X.K rfl pins s2 σ H2 (.ref a) [.int k] (.ref a) us Q I2 rfl r2 ⟨a, ns, k, rfl, rfl, hq2, hk, q2⟩
/-- as spX, the value a tuple that has .index where it is a lot -/
def spXN (K : PySem.W.Frag) (C : Addr) (ok : Int → List (List Int) → PyData → Prop) (g : Int → List (List Int) → PyData → Except (Str × Int) PyData) : Sp :=
  fun vs H Q E => ∃ v u d n rows, vs = [v, u] ∧ Rp K H v (bookD n rows) ∧ Rp K H u d ∧ (isLot n d = true → 0 < (dInts d).length → DN H u) ∧ ok n rows d ∧ Out K C Q E H (g n rows d)
theorem RpAll.len2 {K : PySem.W.Frag} {H : Hp} {xs : List V} {ds : List PyData} (r : RpAll K H xs ds) (h : xs.length = 2) : ∃ x y d e, xs = [x, y] ∧ ds = [d, e] ∧ Rp K H x d ∧ Rp K H y e := by
  cases r with
  | nil => simp at h
  | cons r1 r =>
    cases r with
    | nil => simp at h
    | cons r2 r =>
      cases r with
      | nil => exact ⟨_, _, _, _, rfl, rfl, r1, r2⟩
      | cons r3 r => simp at h
theorem isBook_len {ds : List PyData} (h : ds.length ≠ 2) : false = isBook (.tuple ds) := by
  match ds, h with
  | [], _ => rfl
  | [d1], _ => cases d1 <;> rfl
  | [_, _], h => exact absurd rfl h
  | d1 :: d2 :: _ :: _, _ => cases d1 <;> first | rfl | (cases d2 <;> rfl)
theorem isBook_notInt {d1 d2 : PyData} (z : ∀ i, d1 ≠ .int i) : false = isBook (.tuple [d1, d2]) := by
  cases d1 <;> first | rfl | exact absurd rfl (z _)
theorem isBook_low {n : Int} {d2 : PyData} (z : n < 1) : false = isBook (.tuple [.int n, d2]) := by
  have c3 : ¬ 1 ≤ n := by omega
  cases d2 <;> simp [isBook, c3]
theorem isBook_in {n : Int} {ls : List PyData} (z : ¬ n < 1) : ls.all (isListed n) = isBook (.tuple [.int n, .tuple ls]) := by
  show _ = (decide (1 ≤ n) && ls.all (isListed n))
  rw [decide_eq_true (show 1 ≤ n by omega)]
  rfl
theorem isBook_notTup {n : Int} {d2 : PyData} (z : ∀ l, d2 ≠ .tuple l) : false = isBook (.tuple [.int n, d2]) := by
  cases d2 <;> first | rfl | exact absurd rfl (z _)
/-! ### what a for walks: a list or a tuple -/
def iSeq (K : PySem.W.Frag) (tl : TE) : TI := fun σ H R => tl σ H fun x H1 => ∃ a, x = .ref a ∧ (((∃ xs, SqL K H1 a xs) ∧ R (Itl K a) H1) ∨ ((∃ xs, SqT K H1 a xs) ∧ R (Itt K a) H1))
theorem piS {X : Cx} (K : PySem.W.Frag) {tg l : Expr} {tl : TE} (hl : PE X l tl) (hK : X.K = K := by rfl) : PI X tg l (iSeq K tl) := by
  subst hK
  refine ⟨fun pins s σ H R I h => ?_⟩
  refine thn (hl.run pins s σ H _ I h) fun v s1 ⟨x, H1, I1, r1, q1⟩ => ?_
  obtain ⟨a, e, q1⟩ := q1
  subst e
  cases r1
  rcases q1 with ⟨⟨xs, hq⟩, q⟩ | ⟨⟨xs, hq⟩, q⟩
  · obtain ⟨its, rv, p, hz⟩ := I1.list hq
    refine wpAny_pyIter_list p.isList ?_
    refine ⟨s1.heap.objs.size, [s1.heap.objs.size], _, _, H1, rfl, I1.kept (t' := s1.toks) fun b o e => Heap.get?_push_of_some _ e, turn_list a _, ⟨_, Heap.get?_push_size _ rfl, rfl, rfl⟩, fun b hb => ?_, q⟩
    have e : b = s1.heap.objs.size := by simpa using hb
    subst e
    exact I1.fpOk (Nat.le_refl _) (I1.hok.fresh (Nat.le_refl _))
  · obtain ⟨its, rv, p, hz⟩ := I1.tuple hq
    refine wpAny_pyIter_tuple (show s1.heap.IsTuple a its.toArray from p) ?_
    refine ⟨s1.heap.objs.size, [s1.heap.objs.size], _, _, H1, rfl, I1.kept (t' := s1.toks) fun b o e => Heap.get?_push_of_some _ e, turn_tuple a _, ⟨_, Heap.get?_push_size _ rfl, rfl, rfl⟩, fun b hb => ?_, q⟩
    have e : b = s1.heap.objs.size := by simpa using hb
    subst e
    exact I1.fpOk (Nat.le_refl _) (I1.hok.fresh (Nat.le_refl _))
theorem mono_truth {K : PySem.W.Frag} {i : Nat} : ∀ (σ : L2.St) (H : Hp) (Q Q' : Bool → Hp → Prop), (∀ b H1, Q b H1 → Q' b H1) → (tVar i σ H fun x H' => ∃ k, TruV K x H' k ∧ Q k H') → (tVar i σ H fun x H' => ∃ k, TruV K x H' k ∧ Q' k H') :=
  fun _ _ _ _ hq ⟨v, e, k, t, q⟩ => ⟨v, e, k, t, hq _ _ q⟩
end LK
namespace LK
open PySem PySem.Spec PyProof.Rows L2
/-! ### bits -/
theorem and_odd (a : Nat) : (2 * a + 1) &&& (2 * a) = 2 * a := by
  apply Nat.eq_of_testBit_eq
  intro i
  cases i with
  | zero => simp [Nat.testBit_zero]
  | succ i =>
    rw [Nat.testBit_and, Nat.testBit_succ, Nat.testBit_succ]
    have e1 : (2 * a + 1) / 2 = a := by omega
    have e2 : (2 * a) / 2 = a := by omega
    rw [e1, e2, Bool.and_self]
theorem and_even (a b : Nat) : (2 * a) &&& (2 * b + 1) = 2 * (a &&& b) := by
  apply Nat.eq_of_testBit_eq
  intro i
  cases i with
  | zero => simp [Nat.testBit_zero]
  | succ i =>
    rw [Nat.testBit_and, Nat.testBit_succ, Nat.testBit_succ, Nat.testBit_succ]
    have e1 : (2 * b + 1) / 2 = b := by omega
    have e2 : (2 * a) / 2 = a := by omega
    have e3 : (2 * (a &&& b)) / 2 = a &&& b := by omega
    rw [e1, e2, e3, Nat.testBit_and]
/-- the least bit of a number above 0 -/
theorem low_bit : ∀ (m : Nat), 0 < m → ∃ t, m - (m &&& (m - 1)) = 2 ^ t ∧ m &&& (m - 1) ≤ m ∧ m.testBit t = true ∧ ∀ i, i < t → m.testBit i = false := by
  intro m
  induction m using Nat.strongRecOn with
  | ind m ih =>
    intro hm
    rcases Nat.mod_two_eq_zero_or_one m with h | h
    · obtain ⟨k, rfl⟩ : ∃ k, m = 2 * k := ⟨m / 2, by omega⟩
      obtain ⟨t, h1, h0, h2, h3⟩ := ih k (by omega) (by omega)
      have e : 2 * k - 1 = 2 * (k - 1) + 1 := by omega
      refine ⟨t + 1, ?_, ?_, ?_, ?_⟩
      · rw [e, and_even, Nat.pow_succ]
        omega
      · rw [e, and_even]
        omega
      · rw [Nat.testBit_succ]
        have e2 : (2 * k) / 2 = k := by omega
        rw [e2]
        exact h2
      · intro i hi
        cases i with
        | zero => simp [Nat.testBit_zero]
        | succ i =>
          rw [Nat.testBit_succ]
          have e2 : (2 * k) / 2 = k := by omega
          rw [e2]
          exact h3 i (by omega)
    · obtain ⟨k, rfl⟩ : ∃ k, m = 2 * k + 1 := ⟨m / 2, by omega⟩
      have e : 2 * k + 1 - 1 = 2 * k := by omega
      refine ⟨0, ?_, ?_, ?_, ?_⟩
      · rw [e, and_odd]
        simp
      · rw [e, and_odd]
        omega
      · simp [Nat.testBit_zero]
      · intro i hi
        omega
theorem and_neg {m : Nat} (hm : 0 < m) : ∃ t, Builtin.bitAnd (m : Int) (-(m : Int)) = ((2 ^ t : Nat) : Int) ∧ m.testBit t = true ∧ ∀ i, i < t → m.testBit i = false := by
  obtain ⟨t, h1, h0, h2, h3⟩ := low_bit m hm
  refine ⟨t, ?_, h2, h3⟩
  unfold Builtin.bitAnd
  have e1 : decide (0 ≤ (m : Int)) = true := decide_eq_true (by omega)
  have e2 : decide (0 ≤ -(m : Int)) = false := decide_eq_false (by omega)
  rw [e1, e2]
  have e3 : (Builtin.bitNot (-(m : Int))).toNat = m - 1 := by
    unfold Builtin.bitNot
    omega
  have e4 : ((m : Int)).toNat = m := by omega
  simp only [e3, e4]
  omega
theorem bits_pow (t : Nat) : Builtin.Int.intBits ((2 ^ t : Nat) : Int) = t + 1 := by
  unfold Builtin.Int.intBits
  have h : 0 < 2 ^ t := Nat.two_pow_pos t
  have : (((2 ^ t : Nat) : Int) == 0) = false := by
    rw [beq_eq_false_iff_ne]
    intro z
    have z2 : (2 ^ t : Nat) = 0 := by exact_mod_cast z
    omega
  rw [this]
  simp [Nat.log2_two_pow]
theorem xor_nat (a b : Nat) : Builtin.bitXor (a : Int) (b : Int) = ((a ^^^ b : Nat) : Int) := Bits.bitXor_pp (by omega) (by omega)
theorem or_nat (a b : Nat) : Builtin.bitOr (a : Int) (b : Int) = ((a ||| b : Nat) : Int) := Bits.bitOr_pp (by omega) (by omega)
theorem and_nat (a b : Nat) : Builtin.bitAnd (a : Int) (b : Int) = ((a &&& b : Nat) : Int) := by
  unfold Builtin.bitAnd
  have e1 : decide (0 ≤ (a : Int)) = true := decide_eq_true (by omega)
  have e2 : decide (0 ≤ (b : Int)) = true := decide_eq_true (by omega)
  rw [e1, e2]
  simp
/-- the bits below B, ascending -/
def bitL (B m : Nat) : List Nat := (List.range B).filter fun i => m.testBit i
theorem mem_bitL {B m i : Nat} : i ∈ bitL B m ↔ i < B ∧ m.testBit i = true := by
  unfold bitL
  rw [List.mem_filter, List.mem_range]
theorem bitL_pw (B m : Nat) : (bitL B m).Pairwise (· < ·) := List.Pairwise.filter _ List.pairwise_lt_range
theorem eq_of_lt {l m : List Nat} (hl : l.Pairwise (· < ·)) (hm : m.Pairwise (· < ·)) (h : ∀ x, x ∈ l ↔ x ∈ m) : l = m := by
  have n1 : l.Nodup := hl.imp fun h => Nat.ne_of_lt h
  have n2 : m.Nodup := hm.imp fun h => Nat.ne_of_lt h
  have p : l.Perm m := (List.perm_ext_iff_of_nodup n1 n2).mpr h
  exact List.Perm.eq_of_pairwise (fun x y _ _ h1 h2 => by omega) hl hm p
theorem bitL_zero (B : Nat) : bitL B 0 = [] := by
  unfold bitL
  simp
theorem testBit_lt {m B i : Nat} (h : m < 2 ^ B) (hi : m.testBit i = true) : i < B := by
  apply Classical.byContradiction
  intro z
  have : m.testBit i = false := Nat.testBit_lt_two_pow (Nat.lt_of_lt_of_le h (Nat.pow_le_pow_right (by decide) (by omega)))
  rw [this] at hi
  cases hi
theorem xor_pow {m t : Nat} (i : Nat) : (m ^^^ 2 ^ t).testBit i = (m.testBit i ^^ decide (t = i)) := by
  rw [Nat.testBit_xor, Nat.testBit_two_pow]
/-- the least bit taken away -/
theorem bitL_step {B m t : Nat} (hB : m < 2 ^ B) (h2 : m.testBit t = true) (h3 : ∀ i, i < t → m.testBit i = false) : bitL B m = t :: bitL B (m ^^^ 2 ^ t) := by
  refine eq_of_lt (bitL_pw B m) (List.pairwise_cons.mpr ⟨fun j hj => ?_, bitL_pw B _⟩) fun x => ?_
  · obtain ⟨h4, h5⟩ := mem_bitL.mp hj
    rw [xor_pow] at h5
    apply Classical.byContradiction
    intro z
    by_cases e : t = j
    · subst e
      rw [h2] at h5
      simp at h5
    · rw [h3 j (by omega)] at h5
      simp [e] at h5
  · rw [List.mem_cons, mem_bitL, mem_bitL, xor_pow]
    constructor
    · rintro ⟨h4, h5⟩
      by_cases e : x = t
      · exact .inl e
      · refine .inr ⟨h4, ?_⟩
        rw [h5]
        have : ¬ t = x := fun z => e z.symm
        simp [this]
    · rintro (rfl | ⟨h4, h5⟩)
      · exact ⟨testBit_lt hB h2, h2⟩
      · refine ⟨h4, ?_⟩
        by_cases e : t = x
        · subst e
          exact h2
        · simpa [e] using h5
theorem xor_lt {B m t : Nat} (hB : m < 2 ^ B) (h2 : m.testBit t = true) : m ^^^ 2 ^ t < 2 ^ B := by
  refine Nat.xor_lt_two_pow hB ?_
  exact Nat.pow_lt_pow_right (by decide) (testBit_lt hB h2)
/-- the mask of a list of things -/
def maskL (ns : List Int) : Nat := ns.foldl (fun m x => m ||| 2 ^ x.toNat) 0
theorem foldl_bit (i : Nat) : ∀ (ns : List Int) (m : Nat), (ns.foldl (fun m x => m ||| 2 ^ x.toNat) m).testBit i = (m.testBit i || decide (∃ x ∈ ns, x.toNat = i))
  | [], m => by simp
  | x :: ns, m => by
    rw [List.foldl_cons, foldl_bit i ns, Nat.testBit_or, Nat.testBit_two_pow]
    by_cases e : x.toNat = i
    · simp [e]
    · simp [e]
theorem maskL_bit {ns : List Int} (h : ∀ x ∈ ns, 0 ≤ x) (i : Nat) : (maskL ns).testBit i = decide ((i : Int) ∈ ns) := by
  unfold maskL
  rw [foldl_bit, Nat.zero_testBit, Bool.false_or]
  congr 1
  apply propext
  constructor
  · rintro ⟨x, hx, e⟩
    have := h x hx
    have e2 : (i : Int) = x := by omega
    rw [e2]
    exact hx
  · intro hx
    exact ⟨_, hx, by omega⟩
theorem lt_of_bits {m B : Nat} (h : ∀ i, m.testBit i = true → i < B) : m < 2 ^ B := by
  apply Classical.byContradiction
  intro z
  have hm : m ≠ 0 := by
    intro e
    subst e
    exact z (Nat.two_pow_pos B)
  have h1 : m.testBit m.log2 = true := Nat.testBit_log2 hm
  have h2 := h _ h1
  have h3 : m < 2 ^ (m.log2 + 1) := Nat.lt_log2_self
  have h4 : 2 ^ (m.log2 + 1) ≤ 2 ^ B := Nat.pow_le_pow_right (by decide) h2
  omega
end LK
/-! x == y and x != y of an instance with an own ==, whatever y is; 0 == x -/
namespace LK
open PySem PySem.Spec PyProof.Rows L2
/-- what else == and != ask of a class -/
structure OwnE (K : PySem.W.Frag) (C : Addr) : Prop where
  ne : PySem.W.findIn K (.ref C) "__ne__" = some (some (.builtin "object.__ne__"))
  ob : PySem.W.mroIn K C (.type "object") = some true
  ni : PySem.W.mroIn K C (.type "int") = some false
/-- of which type a value is, as far as == asks -/
inductive TyOf (K : PySem.W.Frag) (H : Hp) : V → Value → Prop
  | ins {a C dx : Addr} {fs : List (Str × V)} : H a = some (.ins C dx fs) → TyOf K H (.ref a) (.ref C)
  | tup {a : Addr} {xs : List V} : SqT K H a xs → TyOf K H (.ref a) (.type "tuple")
section
variable {X : Cx} {CX : CXT} {n : Nat} {f C : Addr} {fd : FuncData} {ps : List Str} {sp : Sp} {E : XK}
theorem TyOf.looks {M : Model} {pins : List (Addr × Obj)} {σ : L2.St} {H : Hp} {s : Shared} {y : V} {u tb : Value} (I : Inv X pins σ H s) (t : TyOf X.K H y tb) (r : RelV y u) : PySem.W.Looks M s.heap (typeOf u) tb := by
  cases t with
  | ins h =>
    obtain rfl : u = Value.ref _ := r
    obtain ⟨mA, J, _⟩ := ins_get I.hok h
    obtain ⟨od, J, _⟩ := J.look
    exact J.type
  | tup h =>
    obtain rfl : u = Value.ref _ := r
    obtain ⟨its, _, ⟨o, ho, hc, _⟩, _⟩ := I.tuple h
    exact hc ▸ (PySem.W.Looks.ld (part := none) ho).andThen .now
/-- the own == is called -/
theorem call_own {A : Around} {pins : List (Addr × Obj)} {σ : L2.St} {H : Hp} {s : Shared} {Q : VK} {x y : V} {v u : Value} (F : FnOk X.prog X.w X.K X.mg X.base CX n f fd ps sp) (hb : Binds X.K fd ps []) (hr : Room n A) (fr : A.frames = X.A.frames) (hx : Passes CX X E) (I : Inv X pins σ H s) (rx : RelV x v) (ry : RelV y u) (h : sp [x, y] H Q E) :
    wpAny (model X.prog X.w) A (call (.ref f) [v, u]) (EP X pins σ Q) X.xe s := by
  have e0 : Env0 X.prog X.w X.K X.mg X.base A X.stack s H := by
    have e := I.env0
    exact ⟨by rw [fr]; exact e.frames, e.mod, e.bs, e.bsz, e.funs, e.frf, e.hok, e.bare⟩
  have hl := F.len _ _ _ _ h
  have r2 : Vals [x, y] [v, u] := .cons rx (.cons ry .nil)
  refine wpAny_call (codeAny_mono (F.run A X.stack s H ⟨[v, u], []⟩ [v, u] [x, y] _ E hr e0 (by
    have := hb s [v, u] I.kIn (by simpa using hl)
    simpa using this) r2 h) fun r s' hq => ?_)
  cases r with
  | error e => exact hx pins σ H s e s' I hq
  | ok fl =>
    cases fl with
    | ret w => exact I.after hq
    | next => exact False.elim hq
    | brk => exact False.elim hq
    | cont => exact False.elim hq
/-- x == y, x an instance with an own == -/
def rOwnE (K : PySem.W.Frag) (C : Addr) (sp : Sp) (E : XK) : R2 := fun x y H Q => ∃ a dx fs tb, x = .ref a ∧ H a = some (.ins C dx fs) ∧ TyOf K H y tb ∧ PySem.W.notFirst K C tb = true ∧ sp [x, y] H (fun v H' => ∃ r, v = .bl r ∧ Q (.bl r) H') E
theorem op_ownE (hs : PySem.W.findIn X.K (.ref C) "__eq__" = some (some (.ref f))) (hf : PySem.W.isFn X.K (.ref f) = true) (F : FnOk X.prog X.w X.K X.mg X.base CX n f fd ps sp) (hb : Binds X.K fd ps []) (hr : Room n X.A) (hx : Passes CX X E) : OpR X (compareOp .Eq) (rOwnE X.K C sp E) := by
  intro pins s σ H x y v u Q I rx ry h
  obtain ⟨a, dx, fs, tb, rfl, ha, ty, hn, q⟩ := h
  obtain rfl : v = Value.ref a := rx
  obtain ⟨mA, J, _⟩ := ins_get I.hok ha
  obtain ⟨od, J, _⟩ := J.look
  obtain ⟨m, hF⟩ := I.fr
  show wpAny (model X.prog X.w) X.A (richCompare .Eq (.ref a) u) (EP X pins σ Q) X.xe s
  refine PySem.W.cmp_K (op := .Eq) (tb := tb) hr.units0 hF I.ok.mod.kin J (ty.looks I ry) hn hs hf ?_
  refine wpAny_mono (call_own F hb hr rfl hx I (show RelV (.ref a) (.ref a) from rfl) ry q) (fun w s' z => ?_) fun _ _ x => x
  obtain ⟨z', H', I', rz, r, ez, qz⟩ := z
  subst ez
  obtain rfl : w = Value.bool r := rz
  exact ⟨.bl r, H', I', rfl, qz⟩
/-- == of an int and such an instance -/
def rIntE (C : Addr) (sp : Sp) (E : XK) : R2 := fun x y H Q => ∃ i a dx fs, x = .int i ∧ y = .ref a ∧ H a = some (.ins C dx fs) ∧ sp [y, x] H (fun v H' => ∃ r, v = .bl r ∧ Q (.bl r) H') E
theorem int_eq_ref {M : Model} {A : Around} {Ex : Value → Shared → Prop} {s : Shared} {i : Int} {t : Tok} {a : Addr} {o : Obj} {Q : Fin → Shared → Prop} (ho : s.heap.get? a = some o) (hd : o.data = .plain) (hq : Q (.done (.ret .notImplemented)) s) :
    wpAny M A (Builtin.«int.__eq__» ⟨[.int i t, .ref a], []⟩) Q Ex s := by
  obtain ⟨hp, g, d, tk, os⟩ := s
  wp_walk using AutoSeq1.wpAny_loadPart' ho
  rw [hd]
  wp_walk
  exact hq
theorem op_intE (O : OwnE X.K C) (hs : PySem.W.findIn X.K (.ref C) "__eq__" = some (some (.ref f))) (hf : PySem.W.isFn X.K (.ref f) = true) (F : FnOk X.prog X.w X.K X.mg X.base CX n f fd ps sp) (hb : Binds X.K fd ps []) (hr : Room n X.A) (hx : Passes CX X E) : OpR X (compareOp .Eq) (rIntE C sp E) := by
  intro pins s σ H x y v u Q I rx ry h
  obtain ⟨i, a, dx, fs, rfl, rfl, ha, q⟩ := h
  obtain ⟨t, rfl⟩ := (show ∃ t, v = Value.int i t from rx)
  obtain rfl : u = Value.ref a := ry
  obtain ⟨mA, J, _⟩ := ins_get I.hok ha
  have hobj := J.obj
  obtain ⟨od, J, _⟩ := J.look
  obtain ⟨m, hF⟩ := I.fr
  have X0 := I.kIn
  show wpAny (model X.prog X.w) X.A (richCompare .Eq (.int i t) (.ref a)) (EP X pins σ Q) X.xe s
  unfold richCompare
  simp only [(typeIs_int s i t).oneThing_none]
  refine wpAny_holding (wpAny_bind (wpAny_cRoomFor hr.units0 ?_))
  refine wpAny_bind (wpAny_typeOf (typeIs_int s i t) (wpAny_bind (J.type.here ?_)))
  rw [if_pos (by rfl)]
  refine wpAny_bind ((PySem.W.looks_mroIn X0 O.ni).here ?_)
  simp only [Bool.false_eq_true, if_false, Bool.not_false, if_true]
  refine wpAny_bind (wpAny_tryCompare_declines (typeIs_int s i t) PySem.F.slot_int_eq (wpAny_call_entry PySem.F.slot_int_eq (typeIs_int s i t) PySem.F.entry_int_eq (int_eq_ref hobj rfl ⟨_, rfl, rfl, ?_⟩) (PySem.F.args_int_eq_2 _ _)))
  have one : wpAny (model X.prog X.w) X.A (tryCompare (.ref a) "__eq__" (.int i t)) (fun r s' => ∃ v, r = some v ∧ EP X pins σ Q v s') X.xe s := by
    unfold tryCompare
    refine wpAny_bind (PySem.W.ifBound_K X0 J hs hf (wpAny_mono (call_own F hb hr rfl hx I (show RelV (.ref a) (.ref a) from rfl) (show RelV (.int i) (.int i t) from ⟨t, rfl⟩) q) (fun w s' z => ?_) fun _ _ e => e))
    obtain ⟨z', H', I', rz, r, ez, qz⟩ := z
    subst ez
    obtain rfl : w = Value.bool r := rz
    exact wpAny_pure ⟨_, rfl, .bl r, H', I', rfl, qz⟩
  refine wpAny_bind (wpAny_mono one (fun r s' z => ?_) fun _ _ e => e)
  obtain ⟨v, rfl, hq⟩ := z
  exact wpAny_pure hq
/-- x != y, x an instance with an own == and no own != -/
theorem ne_entry {A : Around} {s : Shared} {a : Addr} {u : Value} {Q : Fin → Shared → Prop} {ox : Obj} {od : Option Obj} (hu : A.units < cLine) (X0 : X.K.In s.heap) (J : PySem.W.InstAt s.heap a ox C od) (hs : PySem.W.findIn X.K (.ref C) "__eq__" = some (some (.ref f))) (hf : PySem.W.isFn X.K (.ref f) = true)
    (hc : wpAny (model X.prog X.w) A (call (.ref f) [.ref a, u]) (fun v s' => ∃ b, v = .bool b ∧ Q (.done (.ret (.bool (!b)))) s') X.xe s) :
    wpAny (model X.prog X.w) A (Builtin.«object.__ne__» ⟨[.ref a, u], []⟩) Q X.xe s := by
  unfold Builtin.«object.__ne__»
  repeat (first
    | with_reducible refine wpAny_cRoomFor hu ?_
    | (refine wpAny_bind (m := callSpecialIfBound? (.ref a) (Str.ofString "__eq__") [u])
        (PySem.W.ifBound_K X0 J hs hf (wpAny_mono hc (fun r s' hr => by
          obtain ⟨b, rfl, hq⟩ := hr
          repeat (first | exact hq | exact wpAny_pure hq | exact wpAny_truthy_bool hq | (refine wpAny_bind (m := truthy (.bool _)) (wpAny_truthy_bool ?_)) | wp_step)) fun _ _ e => e)))
    | wp_step)
def rOwnNe (K : PySem.W.Frag) (C : Addr) (sp : Sp) (E : XK) : R2 := fun x y H Q => ∃ a dx fs tb, x = .ref a ∧ H a = some (.ins C dx fs) ∧ TyOf K H y tb ∧ PySem.W.notFirst K C tb = true ∧ sp [x, y] H (fun v H' => ∃ r, v = .bl r ∧ Q (.bl (!r)) H') E
theorem op_ownNe (O : OwnE X.K C) (hs : PySem.W.findIn X.K (.ref C) "__eq__" = some (some (.ref f))) (hf : PySem.W.isFn X.K (.ref f) = true) (F : FnOk X.prog X.w X.K X.mg X.base CX n f fd ps sp) (hb : Binds X.K fd ps []) (hr : Room (n + 1) X.A) (hx : Passes CX X E) : OpR X (compareOp .NotEq) (rOwnNe X.K C sp E) := by
  intro pins s σ H x y v u Q I rx ry h
  obtain ⟨a, dx, fs, tb, rfl, ha, ty, hn, q⟩ := h
  obtain rfl : v = Value.ref a := rx
  obtain ⟨mA, J, _⟩ := ins_get I.hok ha
  obtain ⟨od, J, _⟩ := J.look
  obtain ⟨m, hF⟩ := I.fr
  have X0 := I.kIn
  have body : wpAny (model X.prog X.w) X.A.in1 (Builtin.«object.__ne__» ⟨[.ref a, u], []⟩) (fun fin s' => ∃ r, fin = .done (.ret (.bool r)) ∧ EP X pins σ Q (.bool r) s') X.xe s := by
    refine ne_entry hr.in1.units0 X0 J hs hf (wpAny_mono (call_own F hb hr.in1 rfl hx I (show RelV (.ref a) (.ref a) from rfl) ry q) (fun w s' z => ?_) fun _ _ x => x)
    obtain ⟨z', H', I', rz, r, ez, qz⟩ := z
    subst ez
    obtain rfl : w = Value.bool r := rz
    exact ⟨r, rfl, _, rfl, .bl (!r), H', I', rfl, qz⟩
  have one : wpAny (model X.prog X.w) X.A (tryCompare (.ref a) "__ne__" u) (fun r s' => ∃ v, r = some v ∧ EP X pins σ Q v s') X.xe s := by
    unfold tryCompare
    simp only [callSpecialIfBound?, bindSpecialIfBound?]
    refine wpAny_bind (wpAny_holding (wpAny_bind (wpAny_bind (wpAny_bind (J.type.here ((PySem.W.looks_findIn X0 O.ne).here ?_))))))
    simp only [PySem.F.cmp_object.ne.bind]
    have sub : PySem.W.Looks (model X.prog X.w) s.heap (isInstance (.ref a) (.type "object")) true := J.type.andThen (PySem.W.looks_mroIn X0 O.ob)
    have fin : wpAny (model X.prog X.w) X.A (call (.builtin "object.__ne__") ([.ref a] ++ [u])) (fun v s' => ∃ r, v = .bool r ∧ EP X pins σ Q (.bool r) s') X.xe s :=
      wpAny_call (codeAny_call_builtin PySem.F.cmp_object.ne.plain PySem.F.cmpEntry_ne (PySem.W.check_slot PySem.F.cmpKind_ne PySem.F.cmpSplit_ne sub (PySem.F.cmpArgs_ne _ _) (wpAny_mono body (fun fn s' z => by
        obtain ⟨r, rfl, z⟩ := z
        exact ⟨r, rfl, z⟩) fun _ _ x => x)))
    have fin2 : wpAny (model X.prog X.w) X.A (call (.builtin "object.__ne__") ([.ref a] ++ [u]) >>= fun v => pure (some v)) (fun w s' => wpAny (model X.prog X.w) X.A (match w with | some .notImplemented | none => pure none | some v => pure (some v)) (fun r s' => ∃ v, r = some v ∧ EP X pins σ Q v s') X.xe s') X.xe s :=
      wpAny_bind (wpAny_mono fin (fun v s' ⟨r, e, z⟩ => by subst e; exact wpAny_pure (wpAny_pure ⟨_, rfl, z⟩)) fun _ _ x => x)
    refine wpAny_bind (wpAny_askSetting (wpAny_ite ?_))
    split
    · exact wpAny_bind (wpAny_pure (wpAny_pure fin2))
    · exact wpAny_tryCatch (wpAny_bind (wpAny_pure (wpAny_pure fin2)))
  show wpAny (model X.prog X.w) X.A (richCompare .NotEq (.ref a) u) (EP X pins σ Q) X.xe s
  unfold richCompare
  simp only [oneThing_ref]
  refine wpAny_holding (wpAny_bind (wpAny_cRoomFor hr.units0 ?_))
  refine wpAny_bind (J.type.here (wpAny_bind ((ty.looks I ry).here ?_)))
  split
  · rename_i q
    have e : PySem.W.subIn X.K tb (.ref C) = some false := by
      rcases Bool.or_eq_true_iff.mp hn with e | e
      · rw [beq_iff_eq.mp e] at q; simp at q
      · exact beq_iff_eq.mp e
    refine wpAny_bind ((PySem.W.looks_subIn X0 e).here ?_)
    simp only [Bool.false_eq_true, if_false]
    refine wpAny_bind (wpAny_mono one (fun r s' z => ?_) fun _ _ e => e)
    obtain ⟨v, rfl, hq⟩ := z
    exact wpAny_pure hq
  · refine wpAny_bind (wpAny_pure ?_)
    simp only [Bool.false_eq_true, if_false]
    refine wpAny_bind (wpAny_mono one (fun r s' z => ?_) fun _ _ e => e)
    obtain ⟨v, rfl, hq⟩ := z
    exact wpAny_pure hq
end
end LK
namespace LK
open PySem PySem.Spec PyProof.Rows L2
/-- isinstance may be asked of its instances -/
structure InsTy (K : PySem.W.Frag) (C : Addr) : Prop where
  ha : PySem.W.findIn K (.ref C) "__class__" = some (some (.builtin "object.__class__"))
  hn : PySem.W.specialIn K (.builtin "object.__class__") "__get__" = some (some (.builtin "getset_descriptor.__get__"))
  ht : PySem.W.takesIn K (.builtin "object.__class__") = some true
  hm : PySem.W.mroIn K C (.type "object") = some true
def topS (i : Nat) : Stmt := PySem.Challenge.pw_listbylist_k21_whole_pieces_by_end_ropes.main.body.getD i (.Pass ⟨0, 0, 0, 0⟩)
abbrev s_is_integer : Stmt := topS 1
theorem sc_is_integer : FnScope ["thing"] ["thing"] (defScope s_is_integer) := ⟨rfl, rfl, rfl, by decide +kernel, rfl, by decide +kernel, by decide +kernel⟩
abbrev s_is_number : Stmt := topS 2
theorem sc_is_number : FnScope ["thing"] ["thing"] (defScope s_is_number) := ⟨rfl, rfl, rfl, by decide +kernel, rfl, by decide +kernel, by decide +kernel⟩
abbrev s_is_below : Stmt := topS 3
theorem sc_is_below : FnScope ["size", "thing"] ["size", "thing"] (defScope s_is_below) := ⟨rfl, rfl, rfl, by decide +kernel, rfl, by decide +kernel, by decide +kernel⟩
abbrev s_is_rising : Stmt := topS 4
theorem sc_is_rising : FnScope ["things", "k"] ["things"] (defScope s_is_rising) := ⟨rfl, rfl, rfl, by decide +kernel, rfl, by decide +kernel, by decide +kernel⟩
abbrev s_are_below : Stmt := topS 5
theorem sc_are_below : FnScope ["size", "thing", "one"] ["size", "thing"] (defScope s_are_below) := ⟨rfl, rfl, rfl, by decide +kernel, rfl, by decide +kernel, by decide +kernel⟩
abbrev s_is_lot : Stmt := topS 6
theorem sc_is_lot : FnScope ["size", "thing"] ["size", "thing"] (defScope s_is_lot) := ⟨rfl, rfl, rfl, by decide +kernel, rfl, by decide +kernel, by decide +kernel⟩
abbrev s_are_tied : Stmt := topS 8
theorem sc_are_tied : FnScope ["book", "here", "there", "things"] ["book", "here", "there"] (defScope s_are_tied) := ⟨rfl, rfl, rfl, by decide +kernel, rfl, by decide +kernel, by decide +kernel⟩
abbrev s_is_tie : Stmt := topS 9
theorem sc_is_tie : FnScope ["book", "thing"] ["book", "thing"] (defScope s_is_tie) := ⟨rfl, rfl, rfl, by decide +kernel, rfl, by decide +kernel, by decide +kernel⟩
abbrev s_need : Stmt := topS 14
theorem sc_need : FnScope ["holds", "word"] ["holds", "word"] (defScope s_need) := ⟨rfl, rfl, rfl, by decide +kernel, rfl, by decide +kernel, by decide +kernel⟩
abbrev s_mask_of : Stmt := topS 16
theorem sc_mask_of : FnScope ["things", "mask", "thing"] ["things"] (defScope s_mask_of) := ⟨rfl, rfl, rfl, by decide +kernel, rfl, by decide +kernel, by decide +kernel⟩
abbrev s_things_of : Stmt := topS 17
theorem sc_things_of : FnScope ["mask", "found", "left", "lowest"] ["mask"] (defScope s_things_of) := ⟨rfl, rfl, rfl, by decide +kernel, rfl, by decide +kernel, by decide +kernel⟩
abbrev s_near_masks : Stmt := topS 18
theorem sc_near_masks : FnScope ["book", "near", "things", "size", "lists", "whole", "thing"] ["book"] (defScope s_near_masks) := ⟨rfl, rfl, rfl, by decide +kernel, rfl, by decide +kernel, by decide +kernel⟩
abbrev s_ties_of : Stmt := topS 20
theorem sc_ties_of : FnScope ["book", "near", "low", "high"] ["book"] (defScope s_ties_of) := ⟨rfl, rfl, rfl, by decide +kernel, rfl, by decide +kernel, by decide +kernel⟩
abbrev s_between_in : Stmt := topS 21
theorem sc_between_in : FnScope ["near", "low", "high", "thing"] ["near", "low", "high"] (defScope s_between_in) := ⟨rfl, rfl, rfl, by decide +kernel, rfl, by decide +kernel, by decide +kernel⟩
abbrev s_is_rope : Stmt := topS 23
theorem sc_is_rope : FnScope ["book", "thing", "middle", "low", "high", "ahead", "one"] ["book", "thing"] (defScope s_is_rope) := ⟨rfl, rfl, rfl, by decide +kernel, rfl, by decide +kernel, by decide +kernel⟩
abbrev s_is_ropes : Stmt := topS 24
theorem sc_is_ropes : FnScope ["book", "thing", "rope"] ["book", "thing"] (defScope s_is_ropes) := ⟨rfl, rfl, rfl, by decide +kernel, rfl, by decide +kernel, by decide +kernel⟩
abbrev s_middle_in : Stmt := topS 25
theorem sc_middle_in : FnScope ["near", "rope"] ["near", "rope"] (defScope s_middle_in) := ⟨rfl, rfl, rfl, by decide +kernel, rfl, by decide +kernel, by decide +kernel⟩
abbrev s_things_in : Stmt := topS 27
theorem sc_things_in : FnScope ["near", "rope"] ["near", "rope"] (defScope s_things_in) := ⟨rfl, rfl, rfl, by decide +kernel, rfl, by decide +kernel, by decide +kernel⟩
abbrev s_cut_in : Stmt := topS 28
theorem sc_cut_in : FnScope ["near", "rope", "low", "high", "thing"] ["near", "rope", "low", "high"] (defScope s_cut_in) := ⟨rfl, rfl, rfl, by decide +kernel, rfl, by decide +kernel, by decide +kernel⟩
abbrev s_is_cut : Stmt := topS 29
theorem sc_is_cut : FnScope ["near", "rope", "other", "things", "low", "high", "_"] ["near", "rope", "other"] (defScope s_is_cut) := ⟨rfl, rfl, rfl, by decide +kernel, rfl, by decide +kernel, by decide +kernel⟩
abbrev s_is_piece : Stmt := topS 30
theorem sc_is_piece : FnScope ["book", "rope", "other"] ["book", "rope", "other"] (defScope s_is_piece) := ⟨rfl, rfl, rfl, by decide +kernel, rfl, by decide +kernel, by decide +kernel⟩
abbrev s_cut_rope : Stmt := topS 31
theorem sc_cut_rope : FnScope ["book", "rope", "tie", "near", "thing"] ["book", "rope", "tie"] (defScope s_cut_rope) := ⟨rfl, rfl, rfl, by decide +kernel, rfl, by decide +kernel, by decide +kernel⟩
abbrev s_pieces_of : Stmt := topS 32
theorem sc_pieces_of : FnScope ["book", "rope", "near", "things", "pairs", "low", "high"] ["book", "rope"] (defScope s_pieces_of) := ⟨rfl, rfl, rfl, by decide +kernel, rfl, by decide +kernel, by decide +kernel⟩
abbrev s_lots_of : Stmt := topS 34
theorem sc_lots_of : FnScope ["things", "lots", "thing", "lot"] ["things"] (defScope s_lots_of) := ⟨rfl, rfl, rfl, by decide +kernel, rfl, by decide +kernel, by decide +kernel⟩
abbrev s_ropes_of : Stmt := topS 35
theorem sc_ropes_of : FnScope ["book", "near", "ropes", "ahead", "low", "high"] ["book"] (defScope s_ropes_of) := ⟨rfl, rfl, rfl, by decide +kernel, rfl, by decide +kernel, by decide +kernel⟩
abbrev s_above_of : Stmt := topS 37
theorem sc_above_of : FnScope ["book", "ropes", "near", "other", "rope"] ["book", "ropes"] (defScope s_above_of) := ⟨rfl, rfl, rfl, by decide +kernel, rfl, by decide +kernel, by decide +kernel⟩
abbrev s__law_draws : Stmt := topS 39
theorem sc__law_draws : FnScope ["_law_row", "_law_x", "_law_c", "_law_y", "_law_big", "_law_out", "_law_k"] ["_law_row"] (defScope s__law_draws) := ⟨rfl, rfl, rfl, by decide +kernel, rfl, by decide +kernel, by decide +kernel⟩
abbrev s__law_take : Stmt := topS 40
theorem sc__law_take : FnScope ["_law_d", "_law_many"] ["_law_d", "_law_many"] (defScope s__law_take) := ⟨rfl, rfl, rfl, by decide +kernel, rfl, by decide +kernel, by decide +kernel⟩
abbrev s__law_times : Stmt := topS 41
theorem sc__law_times : FnScope ["_law_low", "_law_high", "_law_out", "_law_k"] ["_law_low", "_law_high"] (defScope s__law_times) := ⟨rfl, rfl, rfl, by decide +kernel, rfl, by decide +kernel, by decide +kernel⟩
abbrev s__law_hung : Stmt := topS 42
theorem sc__law_hung : FnScope ["_law_d", "_law_row", "_law_seam", "_law_low", "_law_high", "_law_place"] ["_law_d", "_law_row", "_law_seam"] (defScope s__law_hung) := ⟨rfl, rfl, rfl, by decide +kernel, rfl, by decide +kernel, by decide +kernel⟩
abbrev s__law_named : Stmt := topS 43
theorem sc__law_named : FnScope ["_law_d", "_law_most", "_law_row", "_law_names", "_law_count", "_law_k", "_law_mother", "_law_order", "_law_many", "_law_start", "_law_seam", "_law_fresh", "_law_made", "_law_j", "_law_x"] ["_law_d", "_law_most", "_law_row"] (defScope s__law_named) := ⟨rfl, rfl, rfl, by decide +kernel, rfl, by decide +kernel, by decide +kernel⟩
abbrev s__law_make_book : Stmt := topS 44
theorem sc__law_make_book : FnScope ["_law_d", "_law_most", "_law_got", "_law_row", "_law_way", "_law_lists", "_law_made", "_law_place", "_law_pairs", "_law_x", "_law_y"] ["_law_d", "_law_most"] (defScope s__law_make_book) := ⟨rfl, rfl, rfl, by decide +kernel, rfl, by decide +kernel, by decide +kernel⟩
abbrev s__law_betweens : Stmt := topS 45
theorem sc__law_betweens : FnScope ["_law_book", "_law_tied", "_law_part", "_law_mids", "_law_tie", "_law_x", "_law_inner", "_law_w", "_law_y"] ["_law_book"] (defScope s__law_betweens) := ⟨rfl, rfl, rfl, by decide +kernel, rfl, by decide +kernel, by decide +kernel⟩
abbrev s__law_all_ropes : Stmt := topS 46
theorem sc__law_all_ropes : FnScope ["_law_mids", "_law_out", "_law_tie", "_law_lots", "_law_w", "_law_lot"] ["_law_mids"] (defScope s__law_all_ropes) := ⟨rfl, rfl, rfl, by decide +kernel, rfl, by decide +kernel, by decide +kernel⟩
abbrev s__law_same : Stmt := topS 47
theorem sc__law_same : FnScope ["_law_due", "_law_told", "_law_k"] ["_law_due", "_law_told"] (defScope s__law_same) := ⟨rfl, rfl, rfl, by decide +kernel, rfl, by decide +kernel, by decide +kernel⟩
abbrev s__law_grown_down : Stmt := topS 48
theorem sc__law_grown_down : FnScope ["_law_mids", "_law_rope", "_law_out", "_law_k", "_law_w", "_law_low", "_law_high", "_law_ahead", "_law_tie", "_law_end", "_law_x"] ["_law_mids", "_law_rope"] (defScope s__law_grown_down) := ⟨rfl, rfl, rfl, by decide +kernel, rfl, by decide +kernel, by decide +kernel⟩
abbrev s__law_some : Stmt := topS 49
theorem sc__law_some : FnScope ["_law_d", "_law_ropes", "_law_thin", "_law_bits", "_law_out", "_law_rope"] ["_law_d", "_law_ropes"] (defScope s__law_some) := ⟨rfl, rfl, rfl, by decide +kernel, rfl, by decide +kernel, by decide +kernel⟩
abbrev s__law_pieces_right : Stmt := topS 50
theorem sc__law_pieces_right : FnScope ["_law_d", "_law_book", "_law_ropes", "_law_under", "_law_start", "_law_near", "_law_rope", "_law_one"] ["_law_d", "_law_book", "_law_ropes", "_law_under"] (defScope s__law_pieces_right) := ⟨rfl, rfl, rfl, by decide +kernel, rfl, by decide +kernel, by decide +kernel⟩
abbrev s__law_cuts_right : Stmt := topS 51
theorem sc__law_cuts_right : FnScope ["_law_d", "_law_book", "_law_mids", "_law_ropes", "_law_under", "_law_most", "_law_wide", "_law_rope", "_law_part", "_law_whole", "_law_due", "_law_x", "_law_things", "_law_y", "_law_v", "_law_w"] ["_law_d", "_law_book", "_law_mids", "_law_ropes", "_law_under"] (defScope s__law_cuts_right) := ⟨rfl, rfl, rfl, by decide +kernel, rfl, by decide +kernel, by decide +kernel⟩
abbrev s__law_upward : Stmt := topS 52
theorem sc__law_upward : FnScope ["_law_ropes", "_law_under", "_law_lot", "_law_out", "_law_rope", "_law_part"] ["_law_ropes", "_law_under", "_law_lot"] (defScope s__law_upward) := ⟨rfl, rfl, rfl, by decide +kernel, rfl, by decide +kernel, by decide +kernel⟩
abbrev s__law_uppers_right : Stmt := topS 53
theorem sc__law_uppers_right : FnScope ["_law_d", "_law_book", "_law_ropes", "_law_under", "_law_k", "_law_lot", "_law_due", "_law_rope"] ["_law_d", "_law_book", "_law_ropes", "_law_under"] (defScope s__law_uppers_right) := ⟨rfl, rfl, rfl, by decide +kernel, rfl, by decide +kernel, by decide +kernel⟩
abbrev s__law_refused : Stmt := topS 54
theorem sc__law_refused : FnScope ["_law_k", "_law_book", "_law_one", "_law_two", "e"] ["_law_k", "_law_book", "_law_one", "_law_two"] (defScope s__law_refused) := ⟨rfl, rfl, rfl, by decide +kernel, rfl, by decide +kernel, by decide +kernel⟩
abbrev s__law_refusals : Stmt := topS 55
theorem sc__law_refusals : FnScope ["_law_d", "_law_book", "_law_mids", "_law_rope", "_law_size", "_law_odd", "_law_wrong", "_law_ties", "_law_strange", "_law_heard", "_law_lots", "_law_things", "_law_tie", "_law_low", "_law_high", "_law_ahead", "_law_x"] ["_law_d", "_law_book", "_law_mids", "_law_rope"] (defScope s__law_refusals) := ⟨rfl, rfl, rfl, by decide +kernel, rfl, by decide +kernel, by decide +kernel⟩
abbrev s_law : Stmt := topS 56
theorem sc_law : FnScope ["_law_script", "_law_d", "_law_book", "_law_mids", "_law_ropes", "_law_under", "_law_rope"] ["_law_script"] (defScope s_law) := ⟨rfl, rfl, rfl, by decide +kernel, rfl, by decide +kernel, by decide +kernel⟩
/-- what the top has left: where each def stands; ad, fd by the places of the top's statements -/
structure Txt (K : PySem.W.Frag) (mg : Str → Option Value) (ad : Nat → Addr) (fd : Nat → FuncData) : Prop where
  g_isinstance : mg "isinstance" = none
  g_int : mg "int" = none
  g_bool : mg "bool" = none
  g_tuple : mg "tuple" = none
  g_str : mg "str" = none
  g_list : mg "list" = none
  g_len : mg "len" = none
  g_all : mg "all" = none
  g_any : mg "any" = none
  g_set : mg "set" = none
  g_sorted : mg "sorted" = none
  g_range : mg "range" = none
  g_enumerate : mg "enumerate" = none
  g_sum : mg "sum" = none
  g_min : mg "min" = none
  g_max : mg "max" = none
  g_abs : mg "abs" = none
  g_reversed : mg "reversed" = none
  m_is_integer : mg "is_integer" = some (.ref (ad 1))
  F_is_integer : Fun K "is_integer" "is_integer" s_is_integer (ad 1) (fd 1)
  m_is_number : mg "is_number" = some (.ref (ad 2))
  F_is_number : Fun K "is_number" "is_number" s_is_number (ad 2) (fd 2)
  m_is_below : mg "is_below" = some (.ref (ad 3))
  F_is_below : Fun K "is_below" "is_below" s_is_below (ad 3) (fd 3)
  m_is_rising : mg "is_rising" = some (.ref (ad 4))
  F_is_rising : Fun K "is_rising" "is_rising" s_is_rising (ad 4) (fd 4)
  m_are_below : mg "are_below" = some (.ref (ad 5))
  F_are_below : Fun K "are_below" "are_below" s_are_below (ad 5) (fd 5)
  m_is_lot : mg "is_lot" = some (.ref (ad 6))
  F_is_lot : Fun K "is_lot" "is_lot" s_is_lot (ad 6) (fd 6)
  m_are_tied : mg "are_tied" = some (.ref (ad 8))
  F_are_tied : Fun K "are_tied" "are_tied" s_are_tied (ad 8) (fd 8)
  m_is_tie : mg "is_tie" = some (.ref (ad 9))
  F_is_tie : Fun K "is_tie" "is_tie" s_is_tie (ad 9) (fd 9)
  m_need : mg "need" = some (.ref (ad 14))
  F_need : Fun K "need" "need" s_need (ad 14) (fd 14)
  m_mask_of : mg "mask_of" = some (.ref (ad 16))
  F_mask_of : Fun K "mask_of" "mask_of" s_mask_of (ad 16) (fd 16)
  m_things_of : mg "things_of" = some (.ref (ad 17))
  F_things_of : Fun K "things_of" "things_of" s_things_of (ad 17) (fd 17)
  m_near_masks : mg "near_masks" = some (.ref (ad 18))
  F_near_masks : Fun K "near_masks" "near_masks" s_near_masks (ad 18) (fd 18)
  m_ties_of : mg "ties_of" = some (.ref (ad 20))
  F_ties_of : Fun K "ties_of" "ties_of" s_ties_of (ad 20) (fd 20)
  m_between_in : mg "between_in" = some (.ref (ad 21))
  F_between_in : Fun K "between_in" "between_in" s_between_in (ad 21) (fd 21)
  m_is_rope : mg "is_rope" = some (.ref (ad 23))
  F_is_rope : Fun K "is_rope" "is_rope" s_is_rope (ad 23) (fd 23)
  m_is_ropes : mg "is_ropes" = some (.ref (ad 24))
  F_is_ropes : Fun K "is_ropes" "is_ropes" s_is_ropes (ad 24) (fd 24)
  m_middle_in : mg "middle_in" = some (.ref (ad 25))
  F_middle_in : Fun K "middle_in" "middle_in" s_middle_in (ad 25) (fd 25)
  m_things_in : mg "things_in" = some (.ref (ad 27))
  F_things_in : Fun K "things_in" "things_in" s_things_in (ad 27) (fd 27)
  m_cut_in : mg "cut_in" = some (.ref (ad 28))
  F_cut_in : Fun K "cut_in" "cut_in" s_cut_in (ad 28) (fd 28)
  m_is_cut : mg "is_cut" = some (.ref (ad 29))
  F_is_cut : Fun K "is_cut" "is_cut" s_is_cut (ad 29) (fd 29)
  m_is_piece : mg "is_piece" = some (.ref (ad 30))
  F_is_piece : Fun K "is_piece" "is_piece" s_is_piece (ad 30) (fd 30)
  m_cut_rope : mg "cut_rope" = some (.ref (ad 31))
  F_cut_rope : Fun K "cut_rope" "cut_rope" s_cut_rope (ad 31) (fd 31)
  m_pieces_of : mg "pieces_of" = some (.ref (ad 32))
  F_pieces_of : Fun K "pieces_of" "pieces_of" s_pieces_of (ad 32) (fd 32)
  m_lots_of : mg "lots_of" = some (.ref (ad 34))
  F_lots_of : Fun K "lots_of" "lots_of" s_lots_of (ad 34) (fd 34)
  m_ropes_of : mg "ropes_of" = some (.ref (ad 35))
  F_ropes_of : Fun K "ropes_of" "ropes_of" s_ropes_of (ad 35) (fd 35)
  m_above_of : mg "above_of" = some (.ref (ad 37))
  F_above_of : Fun K "above_of" "above_of" s_above_of (ad 37) (fd 37)
  m__law_draws : mg "_law_draws" = some (.ref (ad 39))
  F__law_draws : Fun K "_law_draws" "_law_draws" s__law_draws (ad 39) (fd 39)
  m__law_take : mg "_law_take" = some (.ref (ad 40))
  F__law_take : Fun K "_law_take" "_law_take" s__law_take (ad 40) (fd 40)
  m__law_times : mg "_law_times" = some (.ref (ad 41))
  F__law_times : Fun K "_law_times" "_law_times" s__law_times (ad 41) (fd 41)
  m__law_hung : mg "_law_hung" = some (.ref (ad 42))
  F__law_hung : Fun K "_law_hung" "_law_hung" s__law_hung (ad 42) (fd 42)
  m__law_named : mg "_law_named" = some (.ref (ad 43))
  F__law_named : Fun K "_law_named" "_law_named" s__law_named (ad 43) (fd 43)
  m__law_make_book : mg "_law_make_book" = some (.ref (ad 44))
  F__law_make_book : Fun K "_law_make_book" "_law_make_book" s__law_make_book (ad 44) (fd 44)
  m__law_betweens : mg "_law_betweens" = some (.ref (ad 45))
  F__law_betweens : Fun K "_law_betweens" "_law_betweens" s__law_betweens (ad 45) (fd 45)
  m__law_all_ropes : mg "_law_all_ropes" = some (.ref (ad 46))
  F__law_all_ropes : Fun K "_law_all_ropes" "_law_all_ropes" s__law_all_ropes (ad 46) (fd 46)
  m__law_same : mg "_law_same" = some (.ref (ad 47))
  F__law_same : Fun K "_law_same" "_law_same" s__law_same (ad 47) (fd 47)
  m__law_grown_down : mg "_law_grown_down" = some (.ref (ad 48))
  F__law_grown_down : Fun K "_law_grown_down" "_law_grown_down" s__law_grown_down (ad 48) (fd 48)
  m__law_some : mg "_law_some" = some (.ref (ad 49))
  F__law_some : Fun K "_law_some" "_law_some" s__law_some (ad 49) (fd 49)
  m__law_pieces_right : mg "_law_pieces_right" = some (.ref (ad 50))
  F__law_pieces_right : Fun K "_law_pieces_right" "_law_pieces_right" s__law_pieces_right (ad 50) (fd 50)
  m__law_cuts_right : mg "_law_cuts_right" = some (.ref (ad 51))
  F__law_cuts_right : Fun K "_law_cuts_right" "_law_cuts_right" s__law_cuts_right (ad 51) (fd 51)
  m__law_upward : mg "_law_upward" = some (.ref (ad 52))
  F__law_upward : Fun K "_law_upward" "_law_upward" s__law_upward (ad 52) (fd 52)
  m__law_uppers_right : mg "_law_uppers_right" = some (.ref (ad 53))
  F__law_uppers_right : Fun K "_law_uppers_right" "_law_uppers_right" s__law_uppers_right (ad 53) (fd 53)
  m__law_refused : mg "_law_refused" = some (.ref (ad 54))
  F__law_refused : Fun K "_law_refused" "_law_refused" s__law_refused (ad 54) (fd 54)
  m__law_refusals : mg "_law_refusals" = some (.ref (ad 55))
  F__law_refusals : Fun K "_law_refusals" "_law_refusals" s__law_refusals (ad 55) (fd 55)
  m_law : mg "law" = some (.ref (ad 56))
  F_law : Fun K "law" "law" s_law (ad 56) (fd 56)
  m_ListsError : mg "ListsError" = some (.ref (ad 11))
  m_BookError : mg "BookError" = some (.ref (ad 12))
  q_NotUsable_BookError : PySem.W.kitOne K (.ref (ad 13)) (.ref (ad 12)) = some true
  xc_NotUsable : ExcC K (ad 13)
  ox_NotUsable : OexC K (ad 13)
  m_NotUsable : mg "NotUsable" = some (.ref (ad 13))
  i_NotUsable : PySem.W.findIn K (.ref (ad 13)) "__init__" = some (some (.ref (ad 1013)))
  t_NotUsable : PySem.W.typeIn K (.ref (ad 1013)) = some (.type "function")
  F_init_NotUsable : Fun K "__init__" "NotUsable.__init__" (inClass (topS 13) 0) (ad 1013) (fd 1013)
  n_NotUsable_word : PySem.W.findIn K (.ref (ad 13)) "word" = some none
  n_NotUsable_at : PySem.W.findIn K (.ref (ad 13)) "at" = some none
  x_NotUsable : XfC K (ad 13)
  e_NotUsable : PySem.W.exmOne K (.ref (ad 13)) (.ref (ad 13)) = some true
section
variable {K : PySem.W.Frag} {mg : Str → Option Value} {ad : Nat → Addr} {fd : Nat → FuncData}
theorem b_is_integer (T : Txt K mg ad fd) : Binds K (fd 1) ["thing"] [] := T.F_is_integer.binds fun _ _ _ _ _ _ us hl => match us, hl with | [_], _ => rfl
theorem b_is_number (T : Txt K mg ad fd) : Binds K (fd 2) ["thing"] [] := T.F_is_number.binds fun _ _ _ _ _ _ us hl => match us, hl with | [_], _ => rfl
theorem b_is_below (T : Txt K mg ad fd) : Binds K (fd 3) ["size", "thing"] [] := T.F_is_below.binds fun _ _ _ _ _ _ us hl => match us, hl with | [_, _], _ => rfl
theorem b_is_rising (T : Txt K mg ad fd) : Binds K (fd 4) ["things"] [] := T.F_is_rising.binds fun _ _ _ _ _ _ us hl => match us, hl with | [_], _ => rfl
theorem b_are_below (T : Txt K mg ad fd) : Binds K (fd 5) ["size", "thing"] [] := T.F_are_below.binds fun _ _ _ _ _ _ us hl => match us, hl with | [_, _], _ => rfl
theorem b_is_lot (T : Txt K mg ad fd) : Binds K (fd 6) ["size", "thing"] [] := T.F_is_lot.binds fun _ _ _ _ _ _ us hl => match us, hl with | [_, _], _ => rfl
theorem b_are_tied (T : Txt K mg ad fd) : Binds K (fd 8) ["book", "here", "there"] [] := T.F_are_tied.binds fun _ _ _ _ _ _ us hl => match us, hl with | [_, _, _], _ => rfl
theorem b_is_tie (T : Txt K mg ad fd) : Binds K (fd 9) ["book", "thing"] [] := T.F_is_tie.binds fun _ _ _ _ _ _ us hl => match us, hl with | [_, _], _ => rfl
theorem b_need (T : Txt K mg ad fd) : Binds K (fd 14) ["holds", "word"] [] := T.F_need.binds fun _ _ _ _ _ _ us hl => match us, hl with | [_, _], _ => rfl
theorem b_mask_of (T : Txt K mg ad fd) : Binds K (fd 16) ["things"] [] := T.F_mask_of.binds fun _ _ _ _ _ _ us hl => match us, hl with | [_], _ => rfl
theorem b_things_of (T : Txt K mg ad fd) : Binds K (fd 17) ["mask"] [] := T.F_things_of.binds fun _ _ _ _ _ _ us hl => match us, hl with | [_], _ => rfl
theorem b_near_masks (T : Txt K mg ad fd) : Binds K (fd 18) ["book"] [] := T.F_near_masks.binds fun _ _ _ _ _ _ us hl => match us, hl with | [_], _ => rfl
theorem b_ties_of (T : Txt K mg ad fd) : Binds K (fd 20) ["book"] [] := T.F_ties_of.binds fun _ _ _ _ _ _ us hl => match us, hl with | [_], _ => rfl
theorem b_between_in (T : Txt K mg ad fd) : Binds K (fd 21) ["near", "low", "high"] [] := T.F_between_in.binds fun _ _ _ _ _ _ us hl => match us, hl with | [_, _, _], _ => rfl
theorem b_is_rope (T : Txt K mg ad fd) : Binds K (fd 23) ["book", "thing"] [] := T.F_is_rope.binds fun _ _ _ _ _ _ us hl => match us, hl with | [_, _], _ => rfl
theorem b_is_ropes (T : Txt K mg ad fd) : Binds K (fd 24) ["book", "thing"] [] := T.F_is_ropes.binds fun _ _ _ _ _ _ us hl => match us, hl with | [_, _], _ => rfl
theorem b_middle_in (T : Txt K mg ad fd) : Binds K (fd 25) ["near", "rope"] [] := T.F_middle_in.binds fun _ _ _ _ _ _ us hl => match us, hl with | [_, _], _ => rfl
theorem b_things_in (T : Txt K mg ad fd) : Binds K (fd 27) ["near", "rope"] [] := T.F_things_in.binds fun _ _ _ _ _ _ us hl => match us, hl with | [_, _], _ => rfl
theorem b_cut_in (T : Txt K mg ad fd) : Binds K (fd 28) ["near", "rope", "low", "high"] [] := T.F_cut_in.binds fun _ _ _ _ _ _ us hl => match us, hl with | [_, _, _, _], _ => rfl
theorem b_is_cut (T : Txt K mg ad fd) : Binds K (fd 29) ["near", "rope", "other"] [] := T.F_is_cut.binds fun _ _ _ _ _ _ us hl => match us, hl with | [_, _, _], _ => rfl
theorem b_is_piece (T : Txt K mg ad fd) : Binds K (fd 30) ["book", "rope", "other"] [] := T.F_is_piece.binds fun _ _ _ _ _ _ us hl => match us, hl with | [_, _, _], _ => rfl
theorem b_cut_rope (T : Txt K mg ad fd) : Binds K (fd 31) ["book", "rope", "tie"] [] := T.F_cut_rope.binds fun _ _ _ _ _ _ us hl => match us, hl with | [_, _, _], _ => rfl
theorem b_pieces_of (T : Txt K mg ad fd) : Binds K (fd 32) ["book", "rope"] [] := T.F_pieces_of.binds fun _ _ _ _ _ _ us hl => match us, hl with | [_, _], _ => rfl
theorem b_lots_of (T : Txt K mg ad fd) : Binds K (fd 34) ["things"] [] := T.F_lots_of.binds fun _ _ _ _ _ _ us hl => match us, hl with | [_], _ => rfl
theorem b_ropes_of (T : Txt K mg ad fd) : Binds K (fd 35) ["book"] [] := T.F_ropes_of.binds fun _ _ _ _ _ _ us hl => match us, hl with | [_], _ => rfl
theorem b_above_of (T : Txt K mg ad fd) : Binds K (fd 37) ["book", "ropes"] [] := T.F_above_of.binds fun _ _ _ _ _ _ us hl => match us, hl with | [_, _], _ => rfl
theorem b__law_draws (T : Txt K mg ad fd) : Binds K (fd 39) ["_law_row"] [] := T.F__law_draws.binds fun _ _ _ _ _ _ us hl => match us, hl with | [_], _ => rfl
theorem b__law_take (T : Txt K mg ad fd) : Binds K (fd 40) ["_law_d", "_law_many"] [] := T.F__law_take.binds fun _ _ _ _ _ _ us hl => match us, hl with | [_, _], _ => rfl
theorem b__law_times (T : Txt K mg ad fd) : Binds K (fd 41) ["_law_low", "_law_high"] [] := T.F__law_times.binds fun _ _ _ _ _ _ us hl => match us, hl with | [_, _], _ => rfl
theorem b__law_hung (T : Txt K mg ad fd) : Binds K (fd 42) ["_law_d", "_law_row", "_law_seam"] [] := T.F__law_hung.binds fun _ _ _ _ _ _ us hl => match us, hl with | [_, _, _], _ => rfl
theorem b__law_named (T : Txt K mg ad fd) : Binds K (fd 43) ["_law_d", "_law_most", "_law_row"] [] := T.F__law_named.binds fun _ _ _ _ _ _ us hl => match us, hl with | [_, _, _], _ => rfl
theorem b__law_make_book (T : Txt K mg ad fd) : Binds K (fd 44) ["_law_d", "_law_most"] [] := T.F__law_make_book.binds fun _ _ _ _ _ _ us hl => match us, hl with | [_, _], _ => rfl
theorem b__law_betweens (T : Txt K mg ad fd) : Binds K (fd 45) ["_law_book"] [] := T.F__law_betweens.binds fun _ _ _ _ _ _ us hl => match us, hl with | [_], _ => rfl
theorem b__law_all_ropes (T : Txt K mg ad fd) : Binds K (fd 46) ["_law_mids"] [] := T.F__law_all_ropes.binds fun _ _ _ _ _ _ us hl => match us, hl with | [_], _ => rfl
theorem b__law_same (T : Txt K mg ad fd) : Binds K (fd 47) ["_law_due", "_law_told"] [] := T.F__law_same.binds fun _ _ _ _ _ _ us hl => match us, hl with | [_, _], _ => rfl
theorem b__law_grown_down (T : Txt K mg ad fd) : Binds K (fd 48) ["_law_mids", "_law_rope"] [] := T.F__law_grown_down.binds fun _ _ _ _ _ _ us hl => match us, hl with | [_, _], _ => rfl
theorem b__law_some (T : Txt K mg ad fd) : Binds K (fd 49) ["_law_d", "_law_ropes"] [] := T.F__law_some.binds fun _ _ _ _ _ _ us hl => match us, hl with | [_, _], _ => rfl
theorem b__law_pieces_right (T : Txt K mg ad fd) : Binds K (fd 50) ["_law_d", "_law_book", "_law_ropes", "_law_under"] [] := T.F__law_pieces_right.binds fun _ _ _ _ _ _ us hl => match us, hl with | [_, _, _, _], _ => rfl
theorem b__law_cuts_right (T : Txt K mg ad fd) : Binds K (fd 51) ["_law_d", "_law_book", "_law_mids", "_law_ropes", "_law_under"] [] := T.F__law_cuts_right.binds fun _ _ _ _ _ _ us hl => match us, hl with | [_, _, _, _, _], _ => rfl
theorem b__law_upward (T : Txt K mg ad fd) : Binds K (fd 52) ["_law_ropes", "_law_under", "_law_lot"] [] := T.F__law_upward.binds fun _ _ _ _ _ _ us hl => match us, hl with | [_, _, _], _ => rfl
theorem b__law_uppers_right (T : Txt K mg ad fd) : Binds K (fd 53) ["_law_d", "_law_book", "_law_ropes", "_law_under"] [] := T.F__law_uppers_right.binds fun _ _ _ _ _ _ us hl => match us, hl with | [_, _, _, _], _ => rfl
theorem b__law_refused (T : Txt K mg ad fd) : Binds K (fd 54) ["_law_k", "_law_book", "_law_one", "_law_two"] [] := T.F__law_refused.binds fun _ _ _ _ _ _ us hl => match us, hl with | [_, _, _, _], _ => rfl
theorem b__law_refusals (T : Txt K mg ad fd) : Binds K (fd 55) ["_law_d", "_law_book", "_law_mids", "_law_rope"] [] := T.F__law_refusals.binds fun _ _ _ _ _ _ us hl => match us, hl with | [_, _, _, _], _ => rfl
theorem b_law (T : Txt K mg ad fd) : Binds K (fd 56) ["_law_script"] [] := T.F_law.binds fun _ _ _ _ _ _ us hl => match us, hl with | [_], _ => rfl
abbrev s_init_NotUsable : Stmt := inClass (topS 13) 0
theorem sc_init_NotUsable : FnScope ["self", "word", "at"] ["self", "word", "at"] (defScope s_init_NotUsable) := ⟨rfl, rfl, rfl, by decide +kernel, rfl, by decide +kernel, by decide +kernel⟩
theorem b_init_NotUsable (T : Txt K mg ad fd) : Binds K (fd 1013) ["self", "word", "at"] [] := T.F_init_NotUsable.binds fun _ _ _ _ _ _ us hl => match us, hl with | [_, _, _], _ => rfl
end
end LK
namespace LK
open PySem PySem.Spec PyProof.Rows L2
section
variable {P : Program} {w : World} {K : PySem.W.Frag} {mg : Str → Option Value} {base : Heap} {ad : Nat → Addr} {fd : Nat → FuncData}
theorem ok_is_integer (T : Txt K mg ad fd) : FnOk P w K mg base CX0 1 (ad 1) (fd 1) ["thing"] (spB1 K isInteger) := by
  refine T.F_is_integer.ok sc_is_integer (fun vs H Q E h => ?_) (fun cdv A outer s H vs Q E hr h => ?_)
  · obtain ⟨v, d, rfl, _⟩ := h
    rfl
  · obtain ⟨v, d, rfl, h, k⟩ := h
    refine ⟨_, (pss_one (ps_ret (pe_and (pe_callB (isiR K) (by rfl) T.g_isinstance (by decide +kernel) (pa_cons (pv 0) (pa_cons (pe_bltn (v := .ty "int") (by rfl) T.g_int (by decide +kernel) rfl) pa_nil))) (pe_one (pe_not (pe_callB (isiR K) (by rfl) T.g_isinstance (by decide +kernel) (pa_cons (pv 0) (pa_cons (pe_bltn (v := .ty "bool") (by rfl) T.g_bool (by decide +kernel) rfl) pa_nil)))))))), ?_⟩
    refine ⟨v, rfl, v, .ty "int", _, _, _, rfl, .ty _, h.ty, isi_int h, _, rfl, ?_⟩
    have kk : ∀ b, b = isInteger d → Q (.bl b) H := fun b e => by rw [e]; exact k
    cases e : isIntB d with
    | false => exact iteF (kk _ (by cases d <;> first | rfl | simp [isIntB] at e))
    | true =>
      refine iteT ⟨v, rfl, v, .ty "bool", _, _, _, rfl, .ty _, h.ty, isi_bool h, _, rfl, kk _ ?_⟩
      cases d <;> first | rfl | simp [isIntB] at e
theorem ok_is_number (T : Txt K mg ad fd) : FnOk P w K mg base CX0 2 (ad 2) (fd 2) ["thing"] (spB1 K isNumber) := by
  refine T.F_is_number.ok sc_is_number (fun vs H Q E h => ?_) (fun cdv A outer s H vs Q E hr h => ?_)
  · obtain ⟨v, d, rfl, _⟩ := h
    rfl
  · obtain ⟨v, d, rfl, h, k⟩ := h
    refine ⟨_, (pss_one (ps_ret (pe_and (pe_call (ok_is_integer T) (hr.mono (by decide)) rfl T.m_is_integer T.F_is_integer.kp (b_is_integer T) .nil pass0 (pa_cons (pv 0) pa_nil)) (pe_one (pe_cmpR op_ge (pv 0) pe_int (nomark _)))))), ?_⟩
    refine ⟨v, rfl, v, d, rfl, h, _, rfl, ?_⟩
    cases h with
    | int i => exact iteT ⟨_, rfl, _, _, rfl, rfl, k⟩
    | _ => exact iteF k
theorem ok_is_below (T : Txt K mg ad fd) : FnOk P w K mg base CX0 3 (ad 3) (fd 3) ["size", "thing"] (spIB0 K isBelow) := by
  refine T.F_is_below.ok sc_is_below (fun vs H Q E h => ?_) (fun cdv A outer s H vs Q E hr h => ?_)
  · obtain ⟨n, v, d, rfl, _⟩ := h
    rfl
  · obtain ⟨n, v, d, rfl, h, k⟩ := h
    refine ⟨_, (pss_one (ps_ret (pe_and (pe_call (ok_is_number T) (hr.mono (by decide)) rfl T.m_is_number T.F_is_number.kp (b_is_number T) .nil pass0 (pa_cons (pv 1) pa_nil)) (pe_one (pe_cmpR op_lt (pv 1) (pv 0) (nomark _)))))), ?_⟩
    refine ⟨v, rfl, v, d, rfl, h, _, rfl, ?_⟩
    cases h with
    | int i =>
      have k' : Q (.bl (decide (0 ≤ i ∧ i < n))) H := k
      show if (decide (0 ≤ i)) = true then _ else Q (.bl false) H
      by_cases c : 0 ≤ i
      · rw [decide_eq_true c]
        refine iteT ⟨_, rfl, _, rfl, _, _, rfl, rfl, ?_⟩
        have e : decide (i < n) = decide (0 ≤ i ∧ i < n) := by simp [c]
        show Q (.bl (decide (i < n))) H
        rw [e]
        exact k'
      · rw [decide_eq_false c]
        refine iteF ?_
        have e : false = decide (0 ≤ i ∧ i < n) := by simp [c]
        show Q (.bl false) H
        rw [e]
        exact k'
    | _ => exact iteF k
theorem ok_is_rising (T : Txt K mg ad fd) : FnOk P w K mg base CX0 1 (ad 4) (fd 4) ["things"] (spRising K) := by
  refine T.F_is_rising.ok sc_is_rising (fun vs H Q E h => ?_) (fun cdv A outer s H vs Q E hr h => ?_)
  · obtain ⟨a, ns, rfl, _⟩ := h
    rfl
  · obtain ⟨a, ns, rfl, h, k⟩ := h
    refine ⟨_, (pss_one (ps_ret (pe_callB (allR K) (by rfl) T.g_all (by decide +kernel) (pa_cons (pe_lc (own := [("k", 1)]) (g := gName 1) rfl sc_is_rising.nd (pi_range2 rfl T.g_range (pa_cons pe_int (pa_cons (pe_callB (lenS K) (by rfl) T.g_len (by decide +kernel) (pa_cons (pv 0) pa_nil)) pa_nil))) (blkOk_by (N := ["things", "k"]) (sc := defScope s_is_rising) (by decide +kernel)) (fun _ _ _ _ _ => (pg_name (i := 1) (x := "k") sc_is_rising.nd rfl (Or.inl rfl))) (fun _ _ _ _ _ => pts_nil) (fun _ _ _ _ _ => (pe_cmpR op_lt (pe_ix (ixT K) (pv 0) (pe_op op_sub (pv 1) pe_int) (fun _ _ => rfl)) (pe_ix (ixT K) (pv 0) (pv 1) (fun _ _ => rfl)) (nomark _)))) pa_nil)))), ?_⟩
    have hl := h.2
    have ez : (((ns.map V.int).length : Int) - 1).toNat = ns.length - 1 := by rw [List.length_map]; omega
    refine ⟨_, rfl, _, _, rfl, .inr h.1, _, _, rfl, ⟨by decide, by decide, by rw [List.length_map]; omega, by rw [List.length_map]; omega⟩, fun D hD => ?_⟩
    rw [ez]
    refine lcR (K := K) (lo := 1) (n := ns.length - 1) (fun _ => true) (fun j => .bool (decide (ns.getD j 0 < ns.getD (j + 1) 0))) hD (by omega) (fun _ _ _ => rfl) (fun i H1 hi s1 Q1 Q2 k1 k2 => ?_) (fun ys H1 s1 hy r => ?_)
    · refine ⟨rfl, ?_⟩
      have g1 : (ns.map V.int)[i]? = some (.int (ns.getD i 0)) := mapD (by omega)
      have g2 : (ns.map V.int)[i + 1]? = some (.int (ns.getD (i + 1) 0)) := mapD (by omega)
      refine ⟨_, rfl, _, rfl, _, _, rfl, rfl, _, _, _, _, rfl, rfl, (seqT s1 h.1), at_of (j := i) (by omega) g1, _, rfl, _, rfl, _, _, _, _, rfl, rfl, (seqT s1 h.1), at_of (j := i + 1) (by omega) g2, _, _, rfl, rfl, ?_⟩
      exact k1 rfl _ _ (Same.refl _) (.bl _)
    · rw [filter_true] at r
      have e := RpAll.ofBools (bs := (List.range (ns.length - 1)).map fun j => decide (ns.getD j 0 < ns.getD (j + 1) 0)) (by rw [List.map_map]; exact r)
      subst e
      refine ⟨_, _, rfl, SqL.of hy, ?_⟩
      have e2 : ((List.range (ns.length - 1)).map fun j => decide (ns.getD j 0 < ns.getD (j + 1) 0)).all id = rising ns := rising_all ns
      show Q (.bl _) H1
      rw [e2]
      exact k _ s1
theorem ok_are_below (T : Txt K mg ad fd) : FnOk P w K mg base CX0 4 (ad 5) (fd 5) ["size", "thing"] (spIB K areBelow) := by
  refine T.F_are_below.ok sc_are_below (fun vs H Q E h => ?_) (fun cdv A outer s H vs Q E hr h => ?_)
  · obtain ⟨n, v, d, rfl, _⟩ := h
    rfl
  · obtain ⟨n, v, d, rfl, h, k⟩ := h
    refine ⟨_, (pss_one (ps_ret (pe_and (pe_callB (isiR K) (by rfl) T.g_isinstance (by decide +kernel) (pa_cons (pv 1) (pa_cons (pe_bltn (v := .ty "tuple") (by rfl) T.g_tuple (by decide +kernel) rfl) pa_nil))) (pe_one (pe_callB (allR K) (by rfl) T.g_all (by decide +kernel) (pa_cons (pe_lc (own := [("one", 2)]) (g := gName 2) rfl sc_are_below.nd (piT K (pv 1)) (blkOk_by (N := ["size", "thing", "one"]) (sc := defScope s_are_below) (by decide +kernel)) (fun _ _ _ _ _ => (pg_name (i := 2) (x := "one") sc_are_below.nd rfl (Or.inl rfl))) (fun _ _ _ _ _ => pts_nil) (fun _ _ _ _ _ => (pe_call (ok_is_below T) (hr.mono (by decide)) rfl T.m_is_below T.F_is_below.kp (b_is_below T) .nil pass0 (pa_cons (pv 0) (pa_cons (pv 2) pa_nil))))) pa_nil)))))), ?_⟩
    refine ⟨v, rfl, v, .ty "tuple", _, _, _, rfl, .ty _, h.ty, isi_tuple h, _, rfl, ?_⟩
    cases h with
    | @tup a xs ds s l r =>
      refine iteT ⟨_, rfl, _, rfl, ⟨_, s⟩, fun D hD => ?_⟩
      refine lcT (K := K) (xs := xs) (fun _ => true) (fun j => .bool (isBelow n (ds.getD j .none))) hD s l (fun _ _ _ => rfl) (fun i x H1 hi s1 Q1 Q2 k1 k2 => ?_) (fun ys H1 s1 hy r1 => ?_)
      · obtain ⟨d, hd, rd⟩ := r.get hi
        have ed : ds.getD i .none = d := by rw [List.getD_eq_getElem?_getD, hd]; rfl
        refine ⟨rfl, _, rfl, _, rfl, n, x, d, rfl, rd.same s1, ?_⟩
        refine k1 rfl _ _ (Same.refl _) ?_
        rw [ed]
        exact .bl _
      · rw [filter_true] at r1
        have e := RpAll.ofBools (bs := (List.range xs.length).map fun j => isBelow n (ds.getD j .none)) (by rw [List.map_map]; exact r1)
        subst e
        refine ⟨_, _, rfl, SqL.of hy, ?_⟩
        have e2 : ((List.range xs.length).map fun j => isBelow n (ds.getD j .none)).all id = areBelow n (.tuple ds) := by
          rw [r.length]
          exact all_range (isBelow n) .none ds
        show Q (.bl _) H1
        rw [e2]
        exact k _ s1
    | _ => exact iteF (k _ (Same.refl _))
theorem ok_is_lot (T : Txt K mg ad fd) : FnOk P w K mg base CX0 5 (ad 6) (fd 6) ["size", "thing"] (spIB K isLot) := by
  refine T.F_is_lot.ok sc_is_lot (fun vs H Q E h => ?_) (fun cdv A outer s H vs Q E hr h => ?_)
  · obtain ⟨n, v, d, rfl, _⟩ := h
    rfl
  · obtain ⟨n, v, d, rfl, h, k⟩ := h
    refine ⟨_, (pss_one (ps_ret (pe_and (pe_call (ok_are_below T) (hr.mono (by decide)) rfl T.m_are_below T.F_are_below.kp (b_are_below T) .nil pass0 (pa_cons (pv 0) (pa_cons (pv 1) pa_nil))) (pe_one (pe_call (ok_is_rising T) (hr.mono (by decide)) rfl T.m_is_rising T.F_is_rising.kp (b_is_rising T) .nil pass0 (pa_cons (pv 1) pa_nil)))))), ?_⟩
    refine ⟨_, rfl, _, rfl, n, v, d, rfl, h, fun H1 s1 => ⟨_, rfl, ?_⟩⟩
    have k' : ∀ b, b = isLot n d → ∀ H', Same H H' → Q (.bl b) H' := fun b e => by rw [e]; exact k
    cases e : areBelow n d with
    | false => exact iteF (k' _ (by simp [isLot, e]) _ s1)
    | true =>
      have ed := areBelow_tup e
      rw [ed] at h
      obtain ⟨a, rfl, ta⟩ := h.tupI
      exact iteT ⟨_, rfl, a, _, rfl, ta.same s1, fun H2 s2 => k' _ (by simp [isLot, e]) _ (s1.trans s2)⟩
end
end LK
namespace LK
open PySem PySem.Spec PyProof.Rows L2
section
variable {P : Program} {w : World} {K : PySem.W.Frag} {mg : Str → Option Value} {base : Heap} {ad : Nat → Addr} {fd : Nat → FuncData}
theorem ok_are_tied (T : Txt K mg ad fd) : FnOk P w K mg base CX0 1 (ad 8) (fd 8) ["book", "here", "there"] (spTied K) := by
  refine T.F_are_tied.ok sc_are_tied (fun vs H Q E h => ?_) (fun cdv A outer s H vs Q E hr h => ?_)
  · obtain ⟨v, x, y, n, rows, rfl, _⟩ := h
    rfl
  · obtain ⟨v, x, y, n, rows, rfl, h, k⟩ := h
    obtain ⟨b, L, xs, rfl, hb, hL, hz, hr2⟩ := rp_book h
    refine ⟨_, (pss_one (ps_ret (pe_callB (anyR K) (by rfl) T.g_any (by decide +kernel) (pa_cons (pe_lc (own := [("things", 3)]) (g := gName 3) rfl sc_are_tied.nd (piT K (pe_ix (ixT K) (pv 0) pe_int (fun _ _ => rfl))) (blkOk_by (N := ["book", "here", "there", "things"]) (sc := defScope s_are_tied) (by decide +kernel)) (fun _ _ _ _ _ => (pg_name (i := 3) (x := "things") sc_are_tied.nd rfl (Or.inl rfl))) (fun _ _ _ _ _ => pts_nil) (fun _ _ _ _ _ => (pe_and (pe_cmpR (inS K) (pv 1) (pv 3) (by with_unfolding_all rfl)) (pe_one (pe_cmpR (inS K) (pv 2) (pv 3) (by with_unfolding_all rfl)))))) pa_nil)))), ?_⟩
    refine ⟨_, rfl, _, _, _, _, rfl, rfl, hb, rfl, L, rfl, ⟨_, hL⟩, fun D hD => ?_⟩
    refine lcT (K := K) (xs := xs) (fun _ => true) (fun j => .bool (decide (x ∈ rows.getD j []) && decide (y ∈ rows.getD j []))) hD hL hz (fun _ _ _ => rfl) (fun i v H1 hi s1 Q1 Q2 k1 k2 => ?_) (fun ys H1 s1 hy r => ?_)
    · obtain ⟨ns, a, hn, rfl, t⟩ := hr2.row hi
      have t := t.same s1
      have en : rows.getD i [] = ns := by rw [List.getD_eq_getElem?_getD, hn]; rfl
      refine ⟨rfl, _, rfl, _, rfl, a, _, rfl, .inr t.1, rfl, flat_ints ns, _, rfl, ?_⟩
      show if inV (.int x) (ns.map V.int) = true then _ else _
      rw [inV_int]
      have k1' : ∀ b, b = (decide (x ∈ rows.getD i []) && decide (y ∈ rows.getD i [])) → Q1 (.bl b) H1 := fun b e => k1 rfl _ _ (Same.refl _) (by rw [e]; exact .bl _)
      rw [en] at k1'
      cases c : decide (x ∈ ns) with
      | false => exact iteF (k1' _ (by rw [c]; rfl))
      | true =>
        refine iteT ⟨_, rfl, _, rfl, a, _, rfl, .inr t.1, rfl, flat_ints ns, ?_⟩
        show Q1 (.bl (inV (.int y) (ns.map V.int))) H1
        rw [inV_int]
        exact k1' _ (by rw [c]; rfl)
    · rw [filter_true] at r
      have e := RpAll.ofBools (bs := (List.range xs.length).map fun j => (decide (x ∈ rows.getD j []) && decide (y ∈ rows.getD j []))) (by rw [List.map_map]; exact r)
      subst e
      refine ⟨_, _, rfl, SqL.of hy, ?_⟩
      have el : xs.length = rows.length := by rw [hr2.length, List.length_map]
      have e2 : ((List.range xs.length).map fun j => (decide (x ∈ rows.getD j []) && decide (y ∈ rows.getD j []))).any id = tiedB rows x y := by
        rw [el]
        exact any_range (fun r : List Int => decide (x ∈ r) && decide (y ∈ r)) [] rows
      show Q (.bl _) H1
      rw [e2]
      exact k _ s1
theorem ok_is_tie (T : Txt K mg ad fd) : FnOk P w K mg base CX0 6 (ad 9) (fd 9) ["book", "thing"] (spBB K isTie) := by
  refine T.F_is_tie.ok sc_is_tie (fun vs H Q E h => ?_) (fun cdv A outer s H vs Q E hr h => ?_)
  · obtain ⟨v, u, d, n, rows, rfl, _⟩ := h
    rfl
  · obtain ⟨v, u, d, n, rows, rfl, h, hu, k⟩ := h
    obtain ⟨b, L, xs, rfl, hb, hL, hz, hr2⟩ := rp_book h
    refine ⟨_, (pss_one (ps_ret (pe_and (pe_call (ok_is_lot T) (hr.mono (by decide)) rfl T.m_is_lot T.F_is_lot.kp (b_is_lot T) .nil pass0 (pa_cons (pe_ix (ixT K) (pv 0) pe_int (fun _ _ => rfl)) (pa_cons (pv 1) pa_nil))) (pe_and (pe_cmpR op_eq (pe_callB (lenS K) (by rfl) T.g_len (by decide +kernel) (pa_cons (pv 1) pa_nil)) pe_int (nomark _)) (pe_one (pe_call (ok_are_tied T) (hr.mono (by decide)) rfl T.m_are_tied T.F_are_tied.kp (b_are_tied T) .nil pass0 (pa_cons (pv 0) (pa_cons (pe_ix (ixT K) (pv 1) pe_int (fun _ _ => rfl)) (pa_cons (pe_ix (ixT K) (pv 1) pe_int (fun _ _ => rfl)) pa_nil))))))))), ?_⟩
    refine ⟨_, rfl, _, _, _, _, rfl, rfl, hb, rfl, _, rfl, n, u, d, rfl, hu, fun H1 s1 => ⟨_, rfl, ?_⟩⟩
    have k' : ∀ b H', Same H H' → b = isTie n rows d → Q (.bl b) H' := fun b H' s e => by rw [e]; exact k _ s
    cases e : isLot n d with
    | false => exact iteF (k' _ _ s1 (by simp [isTie, e]))
    | true =>
      have e2 : areBelow n d = true := by
        unfold isLot at e
        rw [Bool.and_eq_true] at e
        exact e.1
      have ed := areBelow_tup e2
      rw [ed] at hu
      obtain ⟨a, rfl, ta⟩ := hu.tupI
      have ta := ta.same s1
      have hb := seqT s1 hb
      refine iteT ⟨_, rfl, _, _, rfl, .inr ta.1, rfl, _, rfl, ?_⟩
      rw [List.length_map]
      by_cases c : (dInts d).length = 2
      · have c1 : decide (V.int ((dInts d).length : Nat) = V.int 2) = true := decide_eq_true (by rw [c]; rfl)
        rw [c1]
        have g0 : ((dInts d).map V.int)[0]? = some (.int ((dInts d).getD 0 0)) := mapD (by omega)
        have g1 : ((dInts d).map V.int)[1]? = some (.int ((dInts d).getD 1 0)) := mapD (by omega)
        refine iteT ⟨_, rfl, _, rfl, _, _, _, _, rfl, rfl, ta.1, at_of (j := 0) rfl g0, _, rfl, _, _, _, _, rfl, rfl, ta.1, at_of (j := 1) rfl g1, _, _, _, n, rows, rfl, h.same s1, fun H2 s2 => ?_⟩
        exact k' _ _ (s1.trans s2) (by simp [isTie, e, c])
      · have c1 : decide (V.int ((dInts d).length : Nat) = V.int 2) = false := decide_eq_false (fun z => c (by injection z with z; omega))
        rw [c1]
        exact iteF (k' _ _ s1 (by simp [isTie, e, c]))
end
end LK
namespace LK
open PySem PySem.Spec PyProof.Rows L2
section
variable {P : Program} {w : World} {K : PySem.W.Frag} {mg : Str → Option Value} {base : Heap} {ad : Nat → Addr} {fd : Nat → FuncData}
theorem ok_init_NotUsable (T : Txt K mg ad fd) : FnOk P w K mg base CX0 1 (ad 1013) (fd 1013) ["self", "word", "at"] (spInit2 (ad 13)) := by
  refine T.F_init_NotUsable.ok sc_init_NotUsable (fun vs H Q E h => ?_) (fun cdv A outer s H vs Q E hr h => ?_)
  · obtain ⟨a, x, t, rfl, _⟩ := h
    rfl
  · obtain ⟨a, x, t, rfl, ha, k⟩ := h
    refine ⟨_, pss_cons (ps_ost (pv 0) (pv 1)) (pss_one (ps_ost (pv 0) (pv 2))), ?_⟩
    refine ⟨_, rfl, _, rfl, a, _, rfl, T.ox_NotUsable, T.n_NotUsable_word, .inl ⟨ha, fun dx hd hda => ?_⟩⟩
    refine ⟨_, rfl, _, rfl, a, _, rfl, T.ox_NotUsable, T.n_NotUsable_at, .inr ⟨dx, _, upd_same, ?_, (by show 1 ≤ 900; decide), k dx hd hda⟩⟩
    rw [upd_ne hda, upd_same]
theorem ok_need (T : Txt K mg ad fd) : FnOk P w K mg base (L2.CX P w) 3 (ad 14) (fd 14) ["holds", "word"] (spNeed (ad 13)) := by
  refine T.F_need.okX sc_need (fun vs H Q E h => ?_) (fun cdv A outer s H vs Q E hr h => ?_)
  · obtain ⟨b, word, rfl, _⟩ := h
    rfl
  · obtain ⟨b, word, rfl, k1, k2⟩ := h
    refine ⟨_, (pss_one (ps_if (pt_not (pt_truth (pv 0) (by intro _; rfl))) (pss_one (ps_raise rfl (takes_of rfl rfl rfl rfl) (pmk_oex T.ox_NotUsable T.i_NotUsable T.t_NotUsable (ok_init_NotUsable T) (hr.mono (by decide)) (b_init_NotUsable T) .nil pass0 rfl T.m_NotUsable (pa_cons (pv 1) (pa_cons (pe_un un_neg pe_int) pa_nil)))))
  pss_nil)), ?_⟩
    refine ⟨_, rfl, b, rfl, ?_⟩
    cases b with
    | true => exact iteF (k1 rfl)
    | false =>
      refine iteT ?_
      exact raise2 (k2 rfl) fun Q hq => ⟨_, rfl, _, rfl, hq⟩
end
end LK
namespace LK
open PySem PySem.Spec PyProof.Rows L2 StX
/-! ### for i, x in enumerate(tuple) -/
theorem for_enumT {K : PySem.W.Frag} {a : Addr} {xs : List V} {g : TG} {tb : TS} {D : Ends} {σ : L2.St} {H : Hp} (Pv : Nat → L2.St → Hp → Prop) (h0 : Pv 0 σ H) (hl : ∀ i σ H, i ≤ xs.length → Pv i σ H → SqT K H a xs)
    (hs : ∀ i x σ H T, xs[i]? = some x → Pv i σ H → H T = none → g (.ref T) σ (upd H T (.tup [.int (i : Nat), x])) fun σ2 H2 => tb { D with nx := Pv (i + 1), ct := Pv (i + 1), bk := D.nx } σ2 H2) (hd : ∀ σ H, Pv xs.length σ H → D.nx σ H) :
    ∃ W : Nat → Nat → L2.St → Hp → Prop, (∃ m, W 0 m σ H) ∧ ∀ i m σ H, W i m σ H →
      ((IteT K a).stop i H ∧ D.nx σ H) ∨ ((IteT K a).go i H ∧ ∃ N : L2.St → Hp → Prop, (∀ σ' H', N σ' H' → ∃ m', m' < m ∧ W (i + 1) m' σ' H') ∧ ∀ x H', (IteT K a).yld i H x H' → g x σ H' fun σ2 H2 => tb { D with nx := N, ct := N, bk := D.nx } σ2 H2) := by
  refine ⟨fun i m σ H => m = xs.length - i ∧ i ≤ xs.length ∧ Pv i σ H, ⟨xs.length, by simp, Nat.zero_le _, h0⟩, ?_⟩
  rintro i m σ H ⟨rfl, hi, p⟩
  have q := hl i σ H hi p
  by_cases hlt : i < xs.length
  · refine .inr ⟨⟨xs, xs[i], q, by simp [hlt]⟩, Pv (i + 1), fun σ' H' p' => ⟨xs.length - (i + 1), by omega, rfl, hlt, p'⟩, fun x H' y => ?_⟩
    obtain ⟨T, x', rfl, hT, rfl, e⟩ := y
    exact hs i x' σ H T (e xs q) p hT
  · have e : i = xs.length := by omega
    subst e
    exact .inl ⟨⟨xs, q, Nat.le_refl _⟩, hd _ _ p⟩
/-! ### calls of a def with a star parameter -/
section
variable {X : Cx} {CX : CXT} {k : Nat} {f : Addr} {sp : Sp} {E : XK} {x : Str} {p pos : Pos} {e : Expr} {es : List Expr} {t : TA}
theorem pe_callRR (F : FnR X.prog X.w X.K X.mg X.base CX k f sp) (hr : Room k X.A) (hg : Gl X x) (hm : X.mg x = some (.ref f)) (hk : PySem.W.keepIn X.K (.ref f) = true) (hx : Passes CX X E) (ha : PA X (e :: es) t) (hdb : (x == ("__debug__" : Str)) = false := by decide)
    (he : starEach (e :: es) X.env = (false, eval e X.env) :: starEach es X.env := by rfl) (hpl : (backTo pos (starEach es X.env)).any (·.1) = false := by rfl) :
    PE X (.Call (.Name x p) (e :: es) [] pos) (fun σ H Q => t σ H fun vs H1 => sp vs H1 Q E) := by
  refine ⟨fun pins s σ H Q I h => ?_⟩
  refine wpAny_Call_Name_kw (ld_glob I hg hm ?_ hdb)
  refine PySem.W.callWith_K (h₀ := X.base) I.ok.mod.kin hk (thn (ha.run pos pins s σ H _ I h) fun us s1 ⟨vs, H1, I1, r, q⟩ => ⟨I1.kIn, ?_⟩) he hpl
  exact wpAny_call (run_fnR F hr hx I1 r q)
/-- a promise of f(k = e), f with one parameter k and a star parameter -/
def FnK1 (P : Program) (w : World) (K : PySem.W.Frag) (mg : Str → Option Value) (base : Heap) (CX : CXT) (k : Nat) (f : Addr) (n : Str) (sp : Sp) : Prop :=
  ∀ (A : Around) (outer : List Env) (s : Shared) (H : Hp) (u : Value) (v : V) (Q : VK) (E : XK), Room k A → Env0 P w K mg base A outer s H → RelV v u → sp [v] H Q E →
    codeAny (model P w) A (.call (.ref f) ⟨[], [(n, u)]⟩) (CR CX outer P w H s Q E) s
theorem pe_callK1 {n : Str} {kw : Keyword} {tk : TA} (F : FnK1 X.prog X.w X.K X.mg X.base CX k f n sp) (hr : Room k X.A) (hg : Gl X x) (hm : X.mg x = some (.ref f)) (hk : PySem.W.keepIn X.K (.ref f) = true) (hx : Passes CX X E)
    (hkw : PK X [kw] tk) (hall : (backToKw pos (keywordEach [kw] X.env)).all (·.1.isSome) = true := by rfl) (hks : (backToKw pos (keywordEach [kw] X.env)).filterMap (·.1) = [n] := by rfl)
    (hdb : (x == ("__debug__" : Str)) = false := by decide)
    (hpl : ((backTo pos (starEach [] X.env)).any (·.1) || (backToKw pos (keywordEach [kw] X.env)).any (·.1.isNone)) = false := by rfl) :
    PE X (.Call (.Name x p) [] [kw] pos) (fun σ H Q => tk σ H fun zs H1 => ∃ v, zs = [v] ∧ sp [v] H1 Q E) := by
  refine ⟨fun pins s σ H Q I h => ?_⟩
  refine wpAny_Call_Name_kw (ld_glob I hg hm ?_ hdb)
  refine PySem.W.callWith_KW0 (h₀ := X.base) I.ok.mod.kin hk hall ?_ hpl
  refine thn (hkw.run pos pins s σ H _ I h) fun ws s2 ⟨zs, H2, I2, rz, v, ez, q2⟩ => ⟨I2.kIn, ?_⟩
  subst ez
  rw [hks]
  cases rz with
  | cons r rr =>
    cases rr
    refine wpAny_call (codeAny_mono (F X.A X.stack s2 H2 _ v Q E hr I2.env0 r q2) fun rr s' hq => ?_)
    cases rr with
    | error e => exact hx pins σ H2 s2 e s' I2 hq
    | ok fl =>
      cases fl with
      | ret u => exact I2.after hq
      | next => exact False.elim hq
      | brk => exact False.elim hq
      | cont => exact False.elim hq
end
section
variable {CX : CXT} {P : Program} {w : World} {K : PySem.W.Frag} {mg : Str → Option Value} {base : Heap} {k : Nat} {f : Addr} {name qual : Str} {params : Arguments} {body : List Stmt} {scope : Scope} {dV kV doc pm cdv ct oc : Value} {an od : Option Addr}
  {osl : Array (Option Value)} {N : List Str} {sp : Sp}
theorem fn_starK {p1 pv : Str} (lk : K.lookup f = some ⟨oc, od, .func (PySem.W.fnOf name qual params body scope dV kV doc pm an cdv ct), osl⟩) (hcd : PySem.W.codeIn K cdv qual = true) (S : FnScope N ([p1] ++ [pv]) scope) (hCX : CXUp CX)
    (hb : ∀ u : Value, bindArgs (PySem.W.fnOf name qual params body scope dV kV doc pm an cdv ct) ⟨[], [(p1, u)]⟩ = (newTuple [] >>= fun t => pure [(p1, u), (pv, t)]))
    (hbody : ∀ (A : Around) (outer : List Env) (s : Shared) (H : Hp) (vs : List V) (Q : VK) (E : XK), Room k (A.deeper (envOfC qual scope s.heap.objs.size f cdv)) → sp vs H Q E →
      ∃ t, PSs (cxOf CX P w K mg base N qual scope f cdv A outer s H E) body t ∧ t { nx := fun _ H' => Q .non H', rt := Q } (start N vs) H) :
    FnK1 P w K mg base CX (k + 1) f p1 (fun vs H Q E => ∃ v, vs = [v] ∧ ∀ p, H p = Option.none → sp [v, V.ref p] (upd H p (.tup [])) Q E) := by
  intro A outer s H u v Q E hr e0 r hsp
  obtain ⟨v', ev, hq⟩ := hsp
  cases ev
  have hn : H s.heap.objs.size = Option.none := e0.hok.fresh (Nat.le_refl _)
  refine run_bnd lk hcd S hr e0 (G := fun xs H2 => ∃ p, H p = Option.none ∧ xs = [v] ++ [V.ref p] ∧ H2 = upd H p (.tup [])) (fun A' Ex Q' h => ?_) fun s2 H2 xs ⟨p, hp, ex, eH⟩ hr' => ?_
  · rw [hb u]
    refine wpAny_bind (wpAny_newTuple (wpAny_pure ?_) (by decide))
    have new : ObjOk P w (upd H s.heap.objs.size (.tup [])) (s.heap.push ({ cls := .type "tuple", data := .seq ([] : List Value).toArray } : Obj)) s.heap.objs.size (.tup []) := ⟨by decide, [], .nil, ⟨_, Heap.get?_push_size _ rfl, rfl, _, rfl⟩⟩
    have un := un_laid (fs := frs outer) (s := s) (o := ({ cls := .type "tuple", data := .seq ([] : List Value).toArray } : Obj)) (u := .tup []) hn
    have z := h _ _ ([v] ++ [V.ref s.heap.objs.size]) ([u] ++ [Value.ref s.heap.objs.size]) (env0_laid e0 new) un rfl (fun e s' => hCX outer s H _ _ E e s' un (fun b o q => Heap.get?_push_of_some _ q) rfl) (.cons r (.cons rfl .nil))
      rfl ⟨_, hn, rfl, rfl⟩
    exact z
  · subst ex eH
    exact hbody A outer s2 _ _ Q E hr' (hq p hp)
end
/-! ### the mirror of book_of -/
def goodList (n : Int) (d : PyData) : Bool := areUnlike n d && decide (2 ≤ (dInts d).length)
def bookOfX (d : PyData) (ls : List PyData) : Except (Str × Int) PyData :=
  if isInteger d && decide (1 ≤ toInt d) then
    (match ls.findIdx? fun l => !goodList (toInt d) l with
      | some k => .error ("lists", (k : Nat))
      | none => .ok (bookD (toInt d) (ls.map fun l => srt (dInts l))))
  else .error ("size", -1)
def spBookB (K : PySem.W.Frag) (C : Addr) : Sp := fun vs H Q E => ∃ u d p xs ls, vs = [u, .ref p] ∧ Rp K H u d ∧ SqT K H p xs ∧ xs.length ≤ 1000 ∧ RpAll K H xs ls ∧ Out K C Q E H (bookOfX d ls)
/-- as callers say it -/
def spBookR (K : PySem.W.Frag) (C : Addr) : Sp := fun vs H Q E => ∃ u us d ls, vs = u :: us ∧ Rp K H u d ∧ us.length ≤ 1000 ∧ RpAll K H us ls ∧ Out K C Q E H (bookOfX d ls)
end LK
namespace LK
open PySem PySem.Spec PyProof.Rows L2
/-! ### enumerate of a list or a tuple -/
def iEnumA (K : PySem.W.Frag) (ta : TA) : TI := fun σ H R => ta σ H fun vs H1 => ∃ a xs, vs = [.ref a] ∧ ((SqL K H1 a xs ∧ R (Ite K a) H1) ∨ (SqT K H1 a xs ∧ R (IteT K a) H1))
theorem pi_enumA {X : Cx} {K : PySem.W.Frag} {e : Expr} {ta : TA} {p pos tpos : Pos} {elts : List Expr} {kk : Nat} (hg : Gl X "enumerate") (hm : X.mg "enumerate" = none) (ha : PA X [e] ta) (hK : X.K = K := by rfl) (hs : starEach [e] X.env = [(false, eval e X.env)] := by rfl) :
    PI X (.Tuple elts kk tpos) (.Call (.Name "enumerate" p) [e] [] pos) (iEnumA K ta) := by
  subst hK
  refine ⟨fun pins s σ H R I h => ?_⟩
  refine Call_ (ld_blt I hg hm boot_enumerate (PyProof.Rows.callWith_type1 (thn (ha.run pos pins s σ H _ I h) fun us s1 ⟨vs, H1, I1, r1, q1⟩ => ?_) hs rfl))
  obtain ⟨a, xs, ex, q⟩ := q1
  subst ex
  cases r1 with
  | cons r rr =>
    cases rr
    cases r
    rcases q with ⟨hq, q⟩ | ⟨hq, q⟩
    · obtain ⟨its, rv, p', hz⟩ := I1.list hq
      refine call_enumerate_list p'.isList fun h' he hit hsz hk => wpAny_pyIter_enum he ?_
      have I2 : Inv X pins σ H1 { s1 with heap := h' } := I1.kept (t' := s1.toks) hk
      refine ⟨s1.heap.objs.size + 1, [s1.heap.objs.size + 1, s1.heap.objs.size], _, _, H1, rfl, I2, turn_enum a (s1.heap.objs.size + 1) s1.heap.objs.size, ⟨⟨.none, he⟩, hit, Nat.succ_ne_self _⟩, fun b hb => ?_, q⟩
      have e' : b = s1.heap.objs.size + 1 ∨ b = s1.heap.objs.size := by simpa using hb
      have hle : s1.heap.objs.size ≤ b := by
        rcases e' with z | z
        · rw [z]; exact Nat.le_add_right _ _
        · rw [z]; exact Nat.le_refl _
      exact I1.fpOk hle (I1.hok.fresh hle)
    · obtain ⟨its, rv, p', hz⟩ := I1.tuple hq
      have hal : a < s1.heap.objs.size := by obtain ⟨_, z, _⟩ := p'; exact Heap.lt_size z
      refine call_enumerate_tup p' fun h' he hit hsz hk => wpAny_pyIter_enum he ?_
      have I2 : Inv X pins σ H1 { s1 with heap := h' } := I1.kept (t' := s1.toks) hk
      refine ⟨s1.heap.objs.size + 1, [s1.heap.objs.size + 1, s1.heap.objs.size], _, _, H1, rfl, I2, turn_enumT a (s1.heap.objs.size + 1) s1.heap.objs.size, ⟨⟨.none, he⟩, hit, Nat.succ_ne_self _, Nat.ne_of_lt hal⟩, fun b hb => ?_, q⟩
      have e' : b = s1.heap.objs.size + 1 ∨ b = s1.heap.objs.size := by simpa using hb
      have hle : s1.heap.objs.size ≤ b := by
        rcases e' with z | z
        · rw [z]; exact Nat.le_add_right _ _
        · rw [z]; exact Nat.le_refl _
      exact I1.fpOk hle (I1.hok.fresh hle)
/-- {x: i for i, x in enumerate(line)}: the reading of the walk, over a list or a tuple -/
def DictOk (line : List Int) (i : Nat) (kvs : List (Key × V)) : Prop := kvs.length ≤ i ∧ ∀ k : Int, valV kvs (Sum.inl k) = if k ∈ line.take i then some (V.int (line.idxOf k : Nat)) else none
theorem idxOf_at : ∀ {line : List Int} {i : Nat} {x : Int}, line.Nodup → line[i]? = some x → line.idxOf x = i
  | [], i, x, _, h => by simp at h
  | a :: l, 0, x, _, h => by
    have e : a = x := by simpa using h
    subst e
    simp
  | a :: l, i + 1, x, n, h => by
    have hn := List.nodup_cons.mp n
    have hx : l[i]? = some x := by simpa using h
    have ih := idxOf_at hn.2 hx
    have hne : ¬ a = x := fun e => hn.1 (e ▸ List.mem_of_getElem? hx)
    have hb : (a == x) = false := by simpa using hne
    rw [List.idxOf_cons, hb, ih]
    rfl
theorem dict_step {line : List Int} {i : Nat} {x : Int} {kvs : List (Key × V)} (n : line.Nodup) (h : line[i]? = some x) (d : DictOk line i kvs) : DictOk line (i + 1) (putK kvs (Sum.inl x) (.int (i : Nat))) := by
  refine ⟨Nat.le_trans (length_putK _ _ _) (by have := d.1; omega), fun k => ?_⟩
  have et : line.take (i + 1) = line.take i ++ [x] := by
    rw [List.take_succ, h]
    rfl
  rw [valV_put, d.2 k, et]
  by_cases e : k = x
  · subst e
    rw [if_pos rfl, if_pos (by simp), idxOf_at n h]
  · rw [if_neg (fun z => e (by injection z))]
    by_cases hk : k ∈ line.take i
    · rw [if_pos hk, if_pos (by simp [hk])]
    · rw [if_neg hk, if_neg (by simp [hk, e])]
theorem dict_start (line : List Int) : DictOk line 0 [] := ⟨Nat.le_refl _, fun k => by simp [valV_nil]⟩
/-- the walk of the comprehension's reading -/
theorem dc_enum {K : PySem.W.Frag} {a : Addr} {line : List Int} {g : TG} {tt : TT} {tk tv : TE} {vs : List Nat} {σ : L2.St} {H : Hp} {D : Addr} {Qd : Hp → Prop} (hD : H D = none) (hz : line.length ≤ 1000) (nd : line.Nodup) (J : It)
    (hJ : (J = Ite K a ∧ SqL K H a (line.map V.int)) ∨ (J = IteT K a ∧ SqT K H a (line.map V.int)))
    (hs : ∀ (i : Nat) (x : Int) (T : Addr) (H1 : Hp) (Q : VK), (line[i]? = some x) → H1 T = none → Same H H1 → (∀ kvs, H1 D = some (.dK kvs) → True) →
      (∀ Q1 : V → V → Hp → Prop, Q1 (.int x) (.int (i : Nat)) (upd H1 T (.tup [.int (i : Nat), .int x])) → g (.ref T) (wipe σ vs) (upd H1 T (.tup [.int (i : Nat), .int x])) fun σ2 H2 => wipe σ2 vs = wipe σ vs ∧ tt σ2 H2 fun b H3 => b = true ∧ tk σ2 H3 fun y H4 => tv σ2 H4 fun z H5 => Q1 y z H5))
    (mono : ∀ (σ2 : L2.St) (H2 : Hp) (Q Q' : Bool → Hp → Prop), (∀ b H, Q b H → Q' b H) → tt σ2 H2 Q → tt σ2 H2 Q')
    (gmono : ∀ (v : V) (σ1 : L2.St) (H2 : Hp) (Q Q' : L2.St → Hp → Prop), (∀ s H, Q s H → Q' s H) → g v σ1 H2 Q → g v σ1 H2 Q')
    (hd : ∀ kvs H1, Same H H1 → H1 D = some (.dK kvs) → DictOk line line.length kvs → Qd H1) :
    ∃ W : Nat → Nat → Hp → Prop, (∃ m, W 0 m (upd H D (.dK []))) ∧ ∀ i m H, W i m H →
      (J.stop i H ∧ Qd H) ∨ (J.go i H ∧ ∃ Nx : Hp → Prop, (∀ H', Nx H' → ∃ m', m' < m ∧ W (i + 1) m' H') ∧ ∀ x H', J.yld i H x H' → g x (wipe σ vs) H' fun σ2 H2 => wipe σ2 vs = wipe σ vs ∧ tt σ2 H2 fun b H3 =>
        if b = true then tk σ2 H3 fun y H4 => tv σ2 H4 fun z H5 => ∃ kvs k, y = kV k ∧ H5 D = some (.dK kvs) ∧ kvs.length < sizeLine ∧ Nx (upd H5 D (.dK (putK kvs k z))) else Nx H3) := by
  let Pv : Nat → Hp → Prop := fun i H1 => ∃ kvs, Same H H1 ∧ H1 D = some (.dK kvs) ∧ DictOk line i kvs
  refine ⟨fun i m H1 => m = line.length - i ∧ i ≤ line.length ∧ Pv i H1, ⟨line.length, by simp, Nat.zero_le _, [], same_upd hD, upd_same, dict_start line⟩, ?_⟩
  rintro i m H1 ⟨rfl, hi, kvs, s1, hk, dk⟩
  have yld : ∀ x H', J.yld i H1 x H' → i < line.length → ∃ T z, x = .ref T ∧ H1 T = none ∧ H' = upd H1 T (.tup [.int (i : Nat), .int z]) ∧ line[i]? = some z := by
    intro x H' y hlt
    have hm : (line.map V.int)[i]? = some (.int line[i]) := by rw [List.getElem?_map, List.getElem?_eq_getElem hlt]; rfl
    rcases hJ with ⟨rfl, hq⟩ | ⟨rfl, hq⟩
    · obtain ⟨T, x', rfl, hT, rfl, e⟩ := y
      have := e _ (s1.seq hq)
      rw [hm] at this
      cases this
      exact ⟨T, _, rfl, hT, rfl, List.getElem?_eq_getElem hlt⟩
    · obtain ⟨T, x', rfl, hT, rfl, e⟩ := y
      have := e _ (seqT s1 hq)
      rw [hm] at this
      cases this
      exact ⟨T, _, rfl, hT, rfl, List.getElem?_eq_getElem hlt⟩
  by_cases hlt : i < line.length
  · have hgo : J.go i H1 := by
      have hm : (line.map V.int)[i]? = some (.int line[i]) := by rw [List.getElem?_map, List.getElem?_eq_getElem hlt]; rfl
      rcases hJ with ⟨rfl, hq⟩ | ⟨rfl, hq⟩
      · exact ⟨_, _, s1.seq hq, hm⟩
      · exact ⟨_, _, seqT s1 hq, hm⟩
    refine .inr ⟨hgo, Pv (i + 1), fun H' p' => ⟨line.length - (i + 1), by omega, rfl, hlt, p'⟩, fun x H' y => ?_⟩
    obtain ⟨T, z, rfl, hT, rfl, hz2⟩ := yld x H' y hlt
    have sT : Same H1 (upd H1 T (.tup [.int (i : Nat), .int z])) := same_upd hT
    have hk2 := sT _ _ hk
    refine gmono _ _ _ _ _ (fun σ2 H2 hq => ⟨hq.1, mono _ _ _ _ (fun b H3 hb => ?_) hq.2⟩) (hs i z T H1 (fun _ _ => True) hz2 hT s1 (fun _ _ => True.intro) (fun y z2 H5 => ∃ kvs k, y = kV k ∧ H5 D = some (.dK kvs) ∧ kvs.length < sizeLine ∧ Pv (i + 1) (upd H5 D (.dK (putK kvs k z2))))
      ⟨kvs, Sum.inl z, rfl, hk2, small1000 (by have := dk.1; omega), putK kvs (Sum.inl z) (.int (i : Nat)), fun b o e => ?_, upd_same, dict_step nd hz2 dk⟩)
    · rw [hb.1, if_pos rfl]
      exact hb.2
    · rw [upd_ne (ne_of_none e hD)]
      exact sT _ _ (s1 _ _ e)
  · have hie : i = line.length := by omega
    have hst : J.stop i H1 := by
      rcases hJ with ⟨rfl, hq⟩ | ⟨rfl, hq⟩
      · exact ⟨_, s1.seq hq, by rw [List.length_map]; omega⟩
      · exact ⟨_, seqT s1 hq, by rw [List.length_map]; omega⟩
    subst hie
    exact .inl ⟨hst, hd kvs H1 s1 hk dk⟩
theorem pgT {X : Cx} (K : PySem.W.Frag) {pos : Pos} {es : List Expr} {k : Nat} {t : TGs} {n : Nat} (hc : X.calm = true) (h : PGs X es t) (hK : X.K = K := by rfl)
    (hn : (assignEach es X.env).length = n := by rfl) (hst : (assignEach es X.env).findIdx? (·.1) = none := by rfl) : PG X (.Tuple es k pos) (gTup K n t) := hK ▸ pg_tup hc h hn hst
end LK
namespace LK
open PySem PySem.Spec PyProof.Rows L2
/-! ### the things told in lists, each where it comes first; the ties by them -/
def addT (acc : List Int) (x : Int) : List Int := if x ∈ acc then acc else acc ++ [x]
def firstsL (acc l : List Int) : List Int := l.foldl addT acc
def firsts (rows : List (List Int)) : List Int := rows.foldl firstsL []
def SpotOk (th : List Int) (kvs : List (Key × V)) : Prop := kvs.length = th.length ∧ ∀ k : Int, valV kvs (Sum.inl k) = if k ∈ th then some (V.int (th.idxOf k : Nat)) else none
theorem spot_start : SpotOk [] [] := ⟨rfl, fun k => by simp [valV_nil]⟩
theorem spot_old {th : List Int} {kvs : List (Key × V)} {x : Int} (s : SpotOk th kvs) (h : x ∈ th) : SpotOk (addT th x) kvs := by
  unfold addT
  rw [if_pos h]
  exact s
theorem spot_new {th : List Int} {kvs : List (Key × V)} {x : Int} (s : SpotOk th kvs) (h : ¬ x ∈ th) : SpotOk (addT th x) (putK kvs (Sum.inl x) (.int (kvs.length : Nat))) := by
  unfold addT
  rw [if_neg h]
  have hn : valV kvs (Sum.inl x) = none := by rw [s.2 x, if_neg h]
  have hk := valV_not hn
  have hp : putK kvs (Sum.inl x) (.int (kvs.length : Nat)) = kvs ++ [(Sum.inl x, .int (kvs.length : Nat))] := by
    unfold putK
    rw [if_neg]
    intro ha
    obtain ⟨kv, hm, he⟩ := List.any_eq_true.mp ha
    exact hk (List.mem_map.mpr ⟨kv, hm, by simpa using he⟩)
  refine ⟨by rw [hp, List.length_append, List.length_append, s.1]; rfl, fun k => ?_⟩
  rw [valV_put, s.2 k]
  by_cases e : k = x
  · subst e
    rw [if_pos rfl, if_pos (by simp), List.idxOf_append, if_neg h, s.1]
    simp
  · rw [if_neg (fun z => e (by injection z))]
    by_cases hm : k ∈ th
    · rw [if_pos hm, if_pos (by simp [hm]), List.idxOf_append, if_pos hm]
    · rw [if_neg hm, if_neg (by simp [hm, e])]
theorem addT_mem {acc : List Int} {x y : Int} : y ∈ addT acc x ↔ y ∈ acc ∨ y = x := by
  unfold addT
  by_cases h : x ∈ acc
  · rw [if_pos h]
    constructor
    · exact .inl
    · rintro (h2 | rfl)
      · exact h2
      · exact h
  · rw [if_neg h]
    simp
theorem addT_nodup {acc : List Int} {x : Int} (n : acc.Nodup) : (addT acc x).Nodup := by
  unfold addT
  by_cases h : x ∈ acc
  · rw [if_pos h]
    exact n
  · rw [if_neg h]
    refine List.nodup_append.mpr ⟨n, by simp, fun a ha b hb => ?_⟩
    have : b = x := by simpa using hb
    subst this
    intro e
    subst e
    exact h ha
theorem firstsL_mem {y : Int} : ∀ {l acc : List Int}, y ∈ firstsL acc l ↔ y ∈ acc ∨ y ∈ l
  | [], acc => by simp [firstsL]
  | x :: l, acc => by
    show y ∈ firstsL (addT acc x) l ↔ _
    rw [firstsL_mem, addT_mem, List.mem_cons]
    constructor
    · rintro ((h | h) | h)
      · exact .inl h
      · exact .inr (.inl h)
      · exact .inr (.inr h)
    · rintro (h | h | h)
      · exact .inl (.inl h)
      · exact .inl (.inr h)
      · exact .inr h
theorem firstsL_nodup : ∀ {l acc : List Int}, acc.Nodup → (firstsL acc l).Nodup
  | [], acc, n => n
  | x :: l, acc, n => by
    show (firstsL (addT acc x) l).Nodup
    exact firstsL_nodup (addT_nodup n)
theorem firsts_from {y : Int} : ∀ {rows : List (List Int)} {acc : List Int}, y ∈ rows.foldl firstsL acc ↔ y ∈ acc ∨ ∃ r ∈ rows, y ∈ r
  | [], acc => by simp
  | r :: rows, acc => by
    rw [List.foldl_cons, firsts_from, firstsL_mem]
    constructor
    · rintro ((h | h) | ⟨q, hq, h⟩)
      · exact .inl h
      · exact .inr ⟨r, by simp, h⟩
      · exact .inr ⟨q, by simp [hq], h⟩
    · rintro (h | ⟨q, hq, h⟩)
      · exact .inl (.inl h)
      · rcases List.mem_cons.mp hq with rfl | hq
        · exact .inl (.inr h)
        · exact .inr ⟨q, hq, h⟩
theorem firsts_mem {y : Int} {rows : List (List Int)} : y ∈ firsts rows ↔ ∃ r ∈ rows, y ∈ r := by
  unfold firsts
  rw [firsts_from]
  simp
theorem firsts_nd : ∀ {rows : List (List Int)} {acc : List Int}, acc.Nodup → (rows.foldl firstsL acc).Nodup
  | [], acc, n => n
  | r :: rows, acc, n => by
    rw [List.foldl_cons]
    exact firsts_nd (firstsL_nodup n)
theorem firsts_nodup (rows : List (List Int)) : (firsts rows).Nodup := firsts_nd (by simp)
theorem firsts_take {rows : List (List Int)} {i : Nat} {r : List Int} (h : rows[i]? = some r) : firsts (rows.take (i + 1)) = firstsL (firsts (rows.take i)) r := by
  have e : rows.take (i + 1) = rows.take i ++ [r] := by
    rw [List.take_succ, h]
    rfl
  rw [e]
  unfold firsts
  rw [List.foldl_append]
  rfl
theorem firstsL_take {acc r : List Int} {j : Nat} {x : Int} (h : r[j]? = some x) : firstsL acc (r.take (j + 1)) = addT (firstsL acc (r.take j)) x := by
  have e : r.take (j + 1) = r.take j ++ [x] := by
    rw [List.take_succ, h]
    rfl
  rw [e]
  unfold firstsL
  rw [List.foldl_append]
  rfl
theorem small_len {n : Int} {th : List Int} (nd : th.Nodup) (hin : ∀ x ∈ th, 0 ≤ x ∧ x < n) : th.length ≤ n.toNat := by
  have h2 : th ⊆ (List.range n.toNat).map fun i : Nat => (i : Int) := fun y hy => by
    have := hin y hy
    exact List.mem_map.mpr ⟨y.toNat, List.mem_range.mpr (by omega), by omega⟩
  have := nodup_le nd h2
  rwa [List.length_map, List.length_range] at this
def NearT (th : List Int) (rows : List (List Int)) (ms : List Nat) : Prop :=
  ms.length = th.length ∧ ∀ (i m : Nat), ms[i]? = some m → ∀ j : Nat, m.testBit j = decide (j < th.length ∧ tiedB rows (th.getD i 0) (th.getD j 0) = true)
def NearTI (th : List Int) (rows : List (List Int)) (r done : List Int) (ms : List Nat) : Prop :=
  ms.length = th.length ∧ ∀ (i m : Nat), ms[i]? = some m → ∀ j : Nat, m.testBit j = decide (j < th.length ∧ (tiedB rows (th.getD i 0) (th.getD j 0) = true ∨ (th.getD i 0 ∈ done ∧ th.getD j 0 ∈ r)))
theorem neart_start (th : List Int) : NearT th [] (List.replicate th.length 0) :=
  ⟨List.length_replicate, fun i m hm j => by
    have hmem := List.mem_of_getElem? hm
    rw [(List.mem_replicate.mp hmem).2]
    simp [tiedB]⟩
theorem neart_in {th : List Int} {rows : List (List Int)} {r : List Int} {ms : List Nat} (N : NearT th rows ms) : NearTI th rows r [] ms :=
  ⟨N.1, fun i m hm j => by rw [N.2 i m hm j]; simp⟩
theorem tied_take {rows : List (List Int)} {r : List Int} {i : Nat} (h : rows[i]? = some r) (x y : Int) : tiedB (rows.take (i + 1)) x y = (tiedB (rows.take i) x y || (decide (x ∈ r) && decide (y ∈ r))) := by
  have e : rows.take (i + 1) = rows.take i ++ [r] := by
    rw [List.take_succ, h]
    rfl
  rw [e]
  unfold tiedB
  rw [List.any_append]
  simp
theorem neart_end {th : List Int} {rows : List (List Int)} {r : List Int} {i : Nat} {ms : List Nat} (h : rows[i]? = some r) (N : NearTI th (rows.take i) r r ms) : NearT th (rows.take (i + 1)) ms := by
  refine ⟨N.1, fun x m hm y => ?_⟩
  rw [N.2 x m hm y, tied_take h]
  congr 1
  apply propext
  simp [Bool.or_eq_true, Bool.and_eq_true]
def idxs (th r : List Int) : List Int := r.map fun x => ((th.idxOf x : Nat) : Int)
theorem idxs_mem {th r : List Int} (nd : th.Nodup) (hs : ∀ x ∈ r, x ∈ th) (j : Nat) : (j : Int) ∈ idxs th r ↔ j < th.length ∧ th.getD j 0 ∈ r := by
  unfold idxs
  rw [List.mem_map]
  constructor
  · rintro ⟨y, hy, e⟩
    have e2 : th.idxOf y = j := by omega
    have hl : th.idxOf y < th.length := List.idxOf_lt_length_of_mem (hs y hy)
    rw [e2] at hl
    refine ⟨hl, ?_⟩
    rw [List.getD_eq_getElem?_getD, List.getElem?_eq_getElem hl]
    have : th[j] = y := by
      subst e2
      exact List.getElem_idxOf hl
    rw [Option.getD_some, this]
    exact hy
  · rintro ⟨hl, hy⟩
    refine ⟨_, hy, ?_⟩
    have : th.idxOf (th.getD j 0) = j := idxOf_at nd (by rw [List.getD_eq_getElem?_getD, List.getElem?_eq_getElem hl]; rfl)
    rw [this]
theorem neart_step {th : List Int} {rows : List (List Int)} {r : List Int} {j : Nat} {x : Int} {ms : List Nat} {m : Nat} (nd : th.Nodup) (hs : ∀ x ∈ r, x ∈ th) (h : r[j]? = some x) (N : NearTI th rows r (r.take j) ms) (hm : ms[th.idxOf x]? = some m) :
    NearTI th rows r (r.take (j + 1)) (ms.set (th.idxOf x) (m ||| maskL (idxs th r))) := by
  obtain ⟨hl, hb⟩ := N
  have hx : th.idxOf x < ms.length := (List.getElem?_eq_some_iff.mp hm).1
  have hxr : x ∈ r := List.mem_of_getElem? h
  have hxt : x ∈ th := hs x hxr
  have et : r.take (j + 1) = r.take j ++ [x] := by
    rw [List.take_succ, h]
    rfl
  have h0 : ∀ z ∈ idxs th r, 0 ≤ z := fun z hz => by
    obtain ⟨y, _, rfl⟩ := List.mem_map.mp hz
    omega
  have ex : th.getD (th.idxOf x) 0 = x := by
    have hlt := List.idxOf_lt_length_of_mem hxt
    rw [List.getD_eq_getElem?_getD, List.getElem?_eq_getElem hlt, Option.getD_some]
    exact List.getElem_idxOf hlt
  refine ⟨by rw [List.length_set]; exact hl, fun z m2 hz y => ?_⟩
  rw [et]
  by_cases e : z = th.idxOf x
  · subst e
    rw [List.getElem?_set_self hx] at hz
    cases hz
    rw [Nat.testBit_or, hb _ m hm y, maskL_bit h0, ex]
    have key := idxs_mem nd hs y
    generalize th.getD y 0 = u at key ⊢
    by_cases c1 : y < th.length <;> by_cases c2 : u ∈ r <;> by_cases c3 : x ∈ List.take j r <;> cases c4 : tiedB rows x u <;> simp [key, c1, c2, c3, c4]
  · rw [List.getElem?_set_ne (fun q => e q.symm)] at hz
    rw [hb z m2 hz y]
    have hz2 : z < th.length := by rw [← hl]; exact (List.getElem?_eq_some_iff.mp hz).1
    have : ¬ th.getD z 0 = x := fun q => e (by
      rw [← q]
      exact (idxOf_at nd (by rw [List.getD_eq_getElem?_getD, List.getElem?_eq_getElem hz2]; rfl)).symm)
    generalize th.getD z 0 = u at this ⊢
    simp [this]
/-- for each thing told how many are tied to it, itself left out; halved -/
def tieC (rows : List (List Int)) : Int := ((firsts rows).map fun x => (((firsts rows).filter fun y => tiedB rows x y).length : Int) - 1).sum / 2
theorem neart_count {th : List Int} {rows : List (List Int)} {ms : List Nat} {i m : Nat} (N : NearT th rows ms) (hm : ms[i]? = some m) :
    m < 2 ^ th.length ∧ (bitL th.length m).length = (th.filter fun y => tiedB rows (th.getD i 0) y).length := by
  refine ⟨lt_of_bits fun j hj => ?_, ?_⟩
  · rw [N.2 i m hm j] at hj
    exact (of_decide_eq_true hj).1
  · have e := filter_map_range (fun y => tiedB rows (th.getD i 0) y) (fun y => y) 0 th
    rw [List.map_id'] at e
    rw [← e, List.length_map]
    unfold bitL
    congr 1
    refine List.filter_congr fun j hj => ?_
    rw [N.2 i m hm j]
    have := List.mem_range.mp hj
    simp [this]
end LK
/-! what stands while the law's state (a list at S) is written -/
namespace LK
open PySem PySem.Spec PyProof.Rows L2
def hide (S : Addr) (H : Hp) : Hp := fun b => if b = S then none else H b
theorem hide_self (S : Addr) (H : Hp) : hide S H S = none := by
  unfold hide
  rw [if_pos rfl]
theorem hide_ne {S b : Addr} {H : Hp} (h : b ≠ S) : hide S H b = H b := by
  unfold hide
  rw [if_neg h]
theorem hide_same (S : Addr) (H : Hp) : Same (hide S H) H := fun b u e => by
  by_cases h : b = S
  · subst h
    rw [hide_self] at e
    cases e
  · rw [hide_ne h] at e
    exact e
theorem hide_get {S b : Addr} {H : Hp} {u : HO} (e : hide S H b = some u) : H b = some u := hide_same S H b u e
theorem hide_mono {S : Addr} {H H' : Hp} (s : Same H H') : Same (hide S H) (hide S H') := fun b u e => by
  by_cases h : b = S
  · subst h
    rw [hide_self] at e
    cases e
  · rw [hide_ne h] at e ⊢
    exact s _ _ e
theorem hide_upd_self {S : Addr} {H : Hp} {o : HO} : hide S (upd H S o) = hide S H := by
  funext b
  by_cases h : b = S
  · subst h
    rw [hide_self, hide_self]
  · rw [hide_ne h, hide_ne h, upd_ne h]
theorem hide_upd {S p : Addr} {H : Hp} {o : HO} (h : p ≠ S) : hide S (upd H p o) = upd (hide S H) p o := by
  funext b
  by_cases e : b = S
  · subst e
    rw [hide_self, upd_ne (Ne.symm h), hide_self]
  · rw [hide_ne e]
    by_cases e2 : b = p
    · subst e2
      rw [upd_same, upd_same]
    · rw [upd_ne e2, upd_ne e2, hide_ne e]
/-- the law's state: the draws that are left, none below nought (p is not told of) -/
structure StOk (H : Hp) (S p : Addr) : Prop where
  ex : ∃ ds : List Int, H S = some (.lst (ds.map V.int)) ∧ ∀ d ∈ ds, 0 ≤ d
theorem StOk.atS {H : Hp} {S p : Addr} (h : StOk H S p) : ∃ zs, H S = some (.lst zs) := by
  obtain ⟨_, e, _⟩ := h.ex
  exact ⟨_, e⟩
theorem StOk.same {H H' : Hp} {S p : Addr} (h : StOk H S p) (s : Same H H') : StOk H' S p := by
  obtain ⟨ds, h1, h4⟩ := h.ex
  exact ⟨ds, s _ _ h1, h4⟩
theorem StOk.upd {H : Hp} {S p A : Addr} {o : HO} (h : StOk H S p) (n1 : A ≠ S) : StOk (L2.upd H A o) S p := by
  obtain ⟨ds, h1, h4⟩ := h.ex
  exact ⟨ds, by rw [upd_ne n1.symm]; exact h1, h4⟩
/-- all but the state stands, the state is one -/
structure Mv (S p : Addr) (H H' : Hp) : Prop where
  same : Same (hide S H) (hide S H')
  ok : StOk H' S p
theorem Mv.refl {S p : Addr} {H : Hp} (h : StOk H S p) : Mv S p H H := ⟨Same.refl _, h⟩
theorem Mv.trans {S p : Addr} {H H' H'' : Hp} (a : Mv S p H H') (b : Mv S p H' H'') : Mv S p H H'' := ⟨a.same.trans b.same, b.ok⟩
theorem Mv.of {S p : Addr} {H H' : Hp} (h : StOk H S p) (s : Same H H') : Mv S p H H' := ⟨hide_mono s, h.same s⟩
theorem Mv.then {S p : Addr} {H H' H'' : Hp} (a : Mv S p H H') (s : Same H' H'') : Mv S p H H'' := a.trans (.of a.ok s)
theorem free_ne {S p q : Addr} {H : Hp} (h : StOk H S p) (n : H q = none) : q ≠ S := by
  obtain ⟨zs, e⟩ := h.atS
  exact fun z => by rw [z, e] at n; cases n
/-- what was laid anew may be written -/
theorem Mv.put {S p A : Addr} {H H' : Hp} {o : HO} (h : StOk H S p) (n : H A = none) (a : Mv S p H H') : Mv S p H (L2.upd H' A o) := by
  have n1 := free_ne h n
  refine ⟨fun b u e => ?_, a.ok.upd n1⟩
  rw [hide_upd n1, upd_ne]
  · exact a.same _ _ e
  · intro q
    subst q
    rw [hide_ne n1, n] at e
    cases e
theorem Mv.free {S p q : Addr} {H H' : Hp} (a : Mv S p H H') (n : H' q = none) : H q = none := by
  by_cases e : q = S
  · subst e
    obtain ⟨zs, e⟩ := a.ok.atS
    rw [e] at n
    cases n
  · cases h : H q with
    | none => rfl
    | some u =>
      have := a.same q u (by rw [hide_ne e]; exact h)
      rw [hide_ne e, n] at this
      cases this
theorem Mv.get {S p b : Addr} {H H' : Hp} {o : HO} (a : Mv S p H H') (n : b ≠ S) (e : H b = some o) : H' b = some o := by
  have := a.same b o (by rw [hide_ne n]; exact e)
  exact hide_get this
theorem Mv.rp {K : PySem.W.Frag} {S p : Addr} {H H' : Hp} {v : V} {d : PyData} (a : Mv S p H H') (r : Rp K (hide S H) v d) : Rp K (hide S H') v d := r.same a.same
theorem Mv.all {K : PySem.W.Frag} {S p : Addr} {H H' : Hp} {v : List V} {d : List PyData} (a : Mv S p H H') (r : RpAll K (hide S H) v d) : RpAll K (hide S H') v d := r.same a.same
theorem rp_show {K : PySem.W.Frag} {S : Addr} {H : Hp} {v : V} {d : PyData} (r : Rp K (hide S H) v d) : Rp K H v d := r.same (hide_same S H)
theorem hide_free {S p : Addr} {H : Hp} (n : H p = none) : hide S H p = none := by
  by_cases e : p = S
  · subst e
    exact hide_self _ _
  · rw [hide_ne e]
    exact n
theorem seqT_hide {K : PySem.W.Frag} {H : Hp} {S a : Addr} {zs xs : List V} (hS : H S = some (.lst zs)) (s : SqT K H a xs) : SqT K (hide S H) a xs := by
  have ne : ∀ o, H a = some o → (∀ zs, o ≠ .lst zs) → hide S H a = some o := fun o h n => by
    rw [hide_ne]
    · exact h
    · intro e
      subst e
      rw [hS] at h
      exact n _ (Option.some.inj h).symm
  rcases s with (h | ⟨o, h⟩) | h
  · exact .inl (.inl (ne _ h fun _ q => by cases q))
  · exact .inl (.inr ⟨o, ne _ h fun _ q => by cases q⟩)
  · exact .inr h
mutual
theorem rp_hideL {K : PySem.W.Frag} {H : Hp} {S : Addr} {zs : List V} (hS : H S = some (.lst zs)) : ∀ {d : PyData} {v : V}, noL d = true → Rp K H v d → Rp K (hide S H) v d
  | .none, _, _, h => by cases h; exact .non
  | .bool b, _, _, h => by cases h; exact .bl b
  | .int i, _, _, h => by cases h; exact .int i
  | .str x, _, _, h => by cases h; exact .str x
  | .list ds, _, n, h => by simp [noL] at n
  | .tuple ds, _, n, h => by
    cases h with
    | tup s l r => exact .tup (seqT_hide hS s) l (rpAll_hideL hS (by simpa [noL] using n) r)
  | .dict _, _, _, h => by cases h
theorem rpAll_hideL {K : PySem.W.Frag} {H : Hp} {S : Addr} {zs : List V} (hS : H S = some (.lst zs)) : ∀ {ds : List PyData} {vs : List V}, noLs ds = true → RpAll K H vs ds → RpAll K (hide S H) vs ds
  | [], _, _, h => by cases h; exact .nil
  | d :: ds, _, n, h => by
    cases h with
    | cons a b =>
      unfold noLs at n
      rw [Bool.and_eq_true] at n
      exact .cons (rp_hideL hS n.1 a) (rpAll_hideL hS n.2 b)
end
theorem rp_hide {K : PySem.W.Frag} {H : Hp} {S p : Addr} {v : V} {d : PyData} (h : StOk H S p) (n : noL d = true) (r : Rp K H v d) : Rp K (hide S H) v d := by
  obtain ⟨zs, e⟩ := h.atS
  exact rp_hideL e n r
theorem noL_book (n : Int) (rows : List (List Int)) : noL (bookD n rows) = true := by
  show noLs [.int n, .tuple (rows.map dTup)] = true
  unfold noLs
  unfold noLs
  unfold noLs
  show (noL (.tuple (rows.map dTup)) && true) = true
  rw [Bool.and_true]
  show noLs (rows.map dTup) = true
  exact noLs_rows rows
end LK
namespace LK
open PySem PySem.Spec PyProof.Rows L2
theorem pe_bmK {X : Cx} (K : PySem.W.Frag) {T id : String} {name : Str} {r : V → List V → Hp → VK → Prop} {o e : Expr} {es : List Expr} {to : TE} {t : TA} {apos cpos : Pos} (pa : PlainAttrs T) (slot : Slot T name id) (hty : typeOf (.builtin id) = pure (.type "method_descriptor")) (hm : MtR X id r) (ho : PE X o to) (ha : PA X (e :: es) t)
    (h : X.K = K := by rfl)
    (hbase : attributeBase o name X.env (eval o X.env) = eval o X.env := by rfl)
    (hfew : ((backTo cpos (starEach (e :: es) X.env)).all (fun x => !x.1) && (backToKw cpos (keywordEach [] X.env)).all (fun x => x.1.isSome)
      && decide ((e :: es).length + ([] : List Keyword).length + (if ([] : List Keyword).isEmpty then 0 else 1) < 30)) = true := by rfl)
    (hline : (apos.endLine == cpos.line) = true := by rfl) (hs : starEach (e :: es) X.env = (false, eval e X.env) :: starEach es X.env := by rfl) (hplain : (backTo cpos (starEach es X.env)).any (·.1) = false := by rfl) :
    PE X (.Call (.Attribute o name apos) (e :: es) [] cpos) (tBM K T r to t) := by
  subst h
  exact pe_bm pa slot hty hm ho ha hbase hfew hline hs hplain
end LK
namespace LK
open PySem PySem.Spec PyProof.Rows L2
def natI (l : List Nat) : List Int := l.map fun (i : Nat) => (i : Int)
def spMask (K : PySem.W.Frag) : Sp := fun vs H Q _ => ∃ a ns, vs = [.ref a] ∧ (SqL K H a (ns.map V.int) ∨ SqT K H a (ns.map V.int)) ∧ (∀ x ∈ ns, 0 ≤ x ∧ x ≤ 1000) ∧ Q (.int (maskL ns : Nat)) H
def spThings (K : PySem.W.Frag) : Sp := fun vs H Q _ => ∃ (m B : Nat), vs = [.int m] ∧ m < 2 ^ B ∧ B ≤ 1000 ∧ ∀ a H', Same H H' → TupI K H' a (natI (bitL B m)) → Q (.ref a) H'
/-- near of a book: each thing's mask -/
def NearOk (n : Int) (rows : List (List Int)) (ms : List Nat) : Prop := ms.length = n.toNat ∧ ∀ (x m : Nat), ms[x]? = some m → ∀ y : Nat, m.testBit y = decide (x ≠ y ∧ tiedB rows x y = true)
def spNear (K : PySem.W.Frag) : Sp := fun vs H Q _ => ∃ v n rows, vs = [v] ∧ Rp K H v (bookD n rows) ∧ RowsIn n rows ∧ 0 ≤ n ∧ n ≤ 1000 ∧ ∀ p ms H', Same H H' → H p = none → H' p = some (.lst ((natI ms).map V.int)) → NearOk n rows ms → Q (.ref p) H'
theorem maskL_take {ns : List Int} {i : Nat} {x : Int} (h : ns[i]? = some x) : maskL (ns.take (i + 1)) = maskL (ns.take i) ||| 2 ^ x.toNat := by
  unfold maskL
  have e : ns.take (i + 1) = ns.take i ++ [x] := by
    have hl := (List.getElem?_eq_some_iff.mp h).1
    rw [List.take_succ, h]
    rfl
  rw [e, List.foldl_append]
  rfl
theorem intAt {ns : List Int} {i : Nat} {v : V} (h : (ns.map V.int)[i]? = some v) : ∃ x, ns[i]? = some x ∧ v = .int x := by
  rw [List.getElem?_map] at h
  cases e : ns[i]? with
  | none => rw [e] at h; cases h
  | some x => rw [e] at h; exact ⟨x, rfl, (Option.some.inj h).symm⟩
theorem shl1 {x : Int} (h0 : 0 ≤ x) : (1 : Int) * 2 ^ x.toNat = ((2 ^ x.toNat : Nat) : Int) := by
  rw [Int.one_mul]
  norm_cast
theorem near_step {n : Int} {rows : List (List Int)} {r : List Int} {i : Nat} (h : rows[i]? = some r) (x y : Int) : tiedB (rows.take (i + 1)) x y = (tiedB (rows.take i) x y || (decide (x ∈ r) && decide (y ∈ r))) := by
  unfold tiedB
  have e : rows.take (i + 1) = rows.take i ++ [r] := by
    rw [List.take_succ, h]
    rfl
  rw [e, List.any_append]
  simp
section
variable {P : Program} {w : World} {K : PySem.W.Frag} {mg : Str → Option Value} {base : Heap} {ad : Nat → Addr} {fd : Nat → FuncData}
theorem ok_mask_of (T : Txt K mg ad fd) : FnOk P w K mg base CX0 1 (ad 16) (fd 16) ["things"] (spMask K) := by
  refine T.F_mask_of.ok sc_mask_of (fun vs H Q E h => ?_) (fun cdv A outer s H vs Q E hr h => ?_)
  · obtain ⟨a, ns, rfl, _⟩ := h
    rfl
  · obtain ⟨a, ns, rfl, hs, hb, k⟩ := h
    refine ⟨_, (pss_cons (ps_set (i := 1) sc_mask_of.nd rfl (Or.inl rfl) pe_int)
  (pss_cons (ps_for PassesOwn.never rfl (piS K (pv 0)) (pg_name (i := 2) (x := "thing") sc_mask_of.nd rfl (Or.inl rfl))
  (pss_one (ps_set (i := 1) sc_mask_of.nd rfl (Or.inl rfl) (pe_op op_or (pv 1) (pe_op op_shl pe_int (pv 2))))))
  (pss_one (ps_ret (pv 1))))), ?_⟩
    have turn : ∀ (i : Nat) (v : V) (σ : L2.St) (H1 : Hp), (ns.map V.int)[i]? = some v → (∃ u, σ = [some (.ref a), some (.int (maskL (ns.take i) : Nat)), u] ∧ H1 = H) →
      gName 2 v σ H1 fun σ2 H2 => ∃ z, σ2[1]? = some (some z) ∧ ∃ i1 j, 1 = i1 ∧ σ2[2]? = some (some (.int j)) ∧ CPow i1 j ∧ ∃ x y, z = .int x ∧ (.int (i1 * 2 ^ j.toNat) : V) = .int y ∧ (∃ u, σ2.set 1 (some (.int (Builtin.bitOr x y))) = [some (.ref a), some (.int (maskL (ns.take (i + 1)) : Nat)), u] ∧ H2 = H) := by
      rintro i v σ H1 hi ⟨u, rfl, rfl⟩
      obtain ⟨x, hx, rfl⟩ := intAt hi
      obtain ⟨h0, h1⟩ := hb x (List.mem_of_getElem? hx)
      refine ⟨_, rfl, 1, x, rfl, rfl, ⟨h0, by omega, by decide⟩, _, _, rfl, rfl, some (.int x), ?_, rfl⟩
      rw [shl1 h0, or_nat, ← maskL_take hx]
      rfl
    have fin : ∀ (σ : L2.St) (H1 : Hp), (∃ u, σ = [some (.ref a), some (.int (maskL (ns.take (ns.map V.int).length) : Nat)), u] ∧ H1 = H) → ∃ z, σ[1]? = some (some z) ∧ Q z H1 := by
      rintro σ H1 ⟨u, rfl, rfl⟩
      refine ⟨_, rfl, ?_⟩
      rw [List.length_map, List.take_length]
      exact k
    refine ⟨_, rfl, a, rfl, ?_⟩
    rcases hs with hs | hs
    · refine .inl ⟨⟨_, hs⟩, for_list (K := K) (a := a) (xs := ns.map V.int) (fun i σ H1 => ∃ u, σ = [some (.ref a), some (.int (maskL (ns.take i) : Nat)), u] ∧ H1 = H) ⟨none, rfl, rfl⟩ (fun i σ H1 _ ⟨_, _, e⟩ => by rw [e]; exact hs) (fun i v σ H1 hi hp => ?_) fin⟩
      obtain ⟨z, h1, i1, j, rfl, h2, h3, x, y, h4, h5, h6⟩ := turn i v σ H1 hi hp
      exact ⟨z, h1, _, h2, _, _, rfl, rfl, h3, x, y, h4, h5, h6⟩
    · refine .inr ⟨⟨_, hs⟩, for_tup (K := K) (a := a) (xs := ns.map V.int) (fun i σ H1 => ∃ u, σ = [some (.ref a), some (.int (maskL (ns.take i) : Nat)), u] ∧ H1 = H) ⟨none, rfl, rfl⟩ (fun i σ H1 _ ⟨_, _, e⟩ => by rw [e]; exact hs) (fun i v σ H1 hi hp => ?_) fin⟩
      obtain ⟨z, h1, i1, j, rfl, h2, h3, x, y, h4, h5, h6⟩ := turn i v σ H1 hi hp
      exact ⟨z, h1, _, h2, _, _, rfl, rfl, h3, x, y, h4, h5, h6⟩
theorem ok_things_of (T : Txt K mg ad fd) : FnOk P w K mg base CX0 1 (ad 17) (fd 17) ["mask"] (spThings K) := by
  refine T.F_things_of.ok sc_things_of (fun vs H Q E h => ?_) (fun cdv A outer s H vs Q E hr h => ?_)
  · obtain ⟨m, B, rfl, _⟩ := h
    rfl
  · obtain ⟨m, B, rfl, hm, hB, k⟩ := h
    refine ⟨_, (pss_cons (ps_set (i := 1) sc_things_of.nd rfl (Or.inl rfl) (pe_lst pa_nil))
  (pss_cons (ps_set (i := 2) sc_things_of.nd rfl (Or.inl rfl) (pv 0))
  (pss_cons (ps_while PassesOwn.never (pt_truth (pv 2) (by intro _; rfl))
  (pss_cons (ps_set (i := 3) sc_things_of.nd rfl (Or.inl rfl) (pe_op op_and (pv 2) (pe_un un_neg (pv 2))))
  (pss_cons (ps_expr (pe_bmK K PySem.F.plainAttrs_list PySem.F.slot_list_append PySem.F.type_list_append mt_append (pv 1) (pa_cons (pe_op op_sub (pe_bits (pv 3)) pe_int) pa_nil)))
  (pss_one (ps_set (i := 2) sc_things_of.nd rfl (Or.inl rfl) (pe_op op_xor (pv 2) (pv 3)))))))
  (pss_one (ps_ret (pe_callTy (tupOf K) (by rfl) T.g_tuple (by decide +kernel) (pa_cons (pv 1) pa_nil))))))), ?_⟩
    refine ⟨(by show 0 ≤ sizeLine; decide), fun D hD => ⟨_, rfl, ?_⟩⟩
    have lb : ∀ z, (bitL B z).length ≤ B := fun z => by
      unfold bitL
      exact Nat.le_trans (List.length_filter_le _ _) (by rw [List.length_range]; exact Nat.le_refl _)
    show tWhile (fun σ H1 Q => tVar 2 σ H1 fun x H' => ∃ k, TruV K x H' k ∧ Q k H') _ _ [some (V.int (m : Nat)), some (V.ref D), some (V.int (m : Nat)), none] _
    refine while_by (fun σ H1 => ∃ (m' : Nat) (fs : List Nat) (lw : Option V), σ = [some (.int (m : Nat)), some (.ref D), some (.int (m' : Nat)), lw] ∧ Fill H D H1 ((natI fs).map V.int) ∧ m' < 2 ^ B ∧ fs ++ bitL B m' = bitL B m)
      (fun (σ : L2.St) (_ : Hp) => match σ[2]? with | some (some (V.int z)) => (bitL B z.toNat).length | _ => 0) ⟨m, [], none, rfl, Fill.start hD, hm, rfl⟩ (fun σ H1 hp => ?_) (fun σ H1 Q1 Q2 hq ⟨v, e, kk, t, q⟩ => ⟨v, e, kk, t, hq _ _ q⟩)
    obtain ⟨m', fs, lw, rfl, fl, hm', he⟩ := hp
    refine ⟨_, rfl, _, rfl, ?_⟩
    by_cases c : m' = 0
    · subst c
      have ec : (((0 : Nat) : Int) != 0) = false := by decide
      rw [ec]
      refine iteF ⟨_, rfl, ?_⟩
      rw [bitL_zero, List.append_nil] at he
      subst he
      dsimp only [tNil]
      exact tupL_use (SqL.of fl.2) fun p H2 s2 hp => k _ _ (fl.1.trans s2) ⟨hp, by unfold natI; rw [List.length_map]; exact Nat.le_trans (lb m) hB⟩
    · have ec : (((m' : Nat) : Int) != 0) = true := by
        simp
        exact c
      rw [ec]
      obtain ⟨t, h1, h2, h3⟩ := and_neg (m := m') (by omega)
      refine iteT ⟨_, rfl, _, rfl, _, rfl, _, _, rfl, rfl, ?_⟩
      show ∃ v, _
      have lf : fs.length ≤ B := by
        have := lb m
        rw [← he, List.length_append] at this
        omega
      have hs := bitL_step hm' h2 h3
      refine ⟨_, rfl, .inl ⟨rfl, _, SqL.of fl.2⟩, _, rfl, _, rfl, _, _, rfl, rfl, D, _, _, rfl, rfl, fl.2, ?_, ?_⟩
      · unfold natI
        rw [List.length_map, List.length_map]
        exact small1000 (by omega)
      · have ex : Builtin.bitXor (m' : Int) (Builtin.bitAnd (m' : Int) (-(m' : Int))) = ((m' ^^^ 2 ^ t : Nat) : Int) := by rw [h1, xor_nat]
        have eb : ((Builtin.Int.intBits (Builtin.bitAnd (m' : Int) (-(m' : Int))) : Nat) : Int) - 1 = (t : Nat) := by
          rw [h1, bits_pow]
          omega
        refine ⟨_, rfl, _, rfl, _, _, rfl, rfl, ⟨m' ^^^ 2 ^ t, fs ++ [t], _, congrArg (fun z => [some (V.int (m : Nat)), some (V.ref D), some (V.int z), some (V.int (Builtin.bitAnd (m' : Int) (-(m' : Int))))]) ex, ?_, xor_lt hm' h2, ?_⟩, ?_⟩
        · have e3 : (natI (fs ++ [t])).map V.int = (natI fs).map V.int ++ [V.int (((Builtin.Int.intBits (Builtin.bitAnd (m' : Int) (-(m' : Int))) : Nat) : Int) - 1)] := by
            rw [eb]
            unfold natI
            rw [List.map_append, List.map_append]
            rfl
          rw [e3]
          exact fl.push hD (Same.refl _)
        · rw [List.append_assoc, List.singleton_append, ← hs]
          exact he
        · show (bitL B (Builtin.bitXor (m' : Int) (Builtin.bitAnd (m' : Int) (-(m' : Int)))).toNat).length < (bitL B ((m' : Nat) : Int).toNat).length
          rw [ex]
          have e4 : ((m' : Nat) : Int).toNat = m' := by omega
          have e5 : ((m' ^^^ 2 ^ t : Nat) : Int).toNat = m' ^^^ 2 ^ t := by omega
          rw [e4, e5, hs]
          exact Nat.lt_succ_self _
end
end LK
namespace LK
open PySem PySem.Spec PyProof.Rows L2
theorem natI_length (l : List Nat) : (natI l).length = l.length := by unfold natI; rw [List.length_map]
theorem natI_get {l : List Nat} {i m : Nat} (h : l[i]? = some m) : ((natI l).map V.int)[i]? = some (.int (m : Nat)) := by
  unfold natI
  rw [List.map_map, List.getElem?_map, h]
  rfl
theorem natI_set {l : List Nat} {i m : Nat} : ((natI l).map V.int).set i (.int (m : Nat)) = (natI (l.set i m)).map V.int := by
  unfold natI
  rw [List.map_map, List.map_map, List.map_set]
  rfl
theorem ixN_nat {n j : Nat} (hj : j < n) : ixN n (j : Int) = some j := by
  unfold ixN
  rw [if_pos (by omega), if_pos (by omega)]
  simp
/-- within row r, behind j of its things -/
def NearIn (n : Int) (rows : List (List Int)) (r done : List Int) (ms : List Nat) : Prop :=
  ms.length = n.toNat ∧ ∀ (x m : Nat), ms[x]? = some m → ∀ y : Nat, m.testBit y = decide (x ≠ y ∧ (tiedB rows x y = true ∨ ((x : Int) ∈ done ∧ (y : Int) ∈ r)))
theorem near_in_step {n : Int} {rows : List (List Int)} {r : List Int} {j : Nat} {x : Nat} {ms : List Nat} {m : Nat} (hr : ∀ z ∈ r, 0 ≤ z) (h : r[j]? = some (x : Int)) (N : NearIn n rows r (r.take j) ms) (hm : ms[x]? = some m) :
    NearIn n rows r (r.take (j + 1)) (ms.set x (m ||| (maskL r ^^^ 2 ^ x))) := by
  obtain ⟨hl, hb⟩ := N
  have hx : x < ms.length := (List.getElem?_eq_some_iff.mp hm).1
  have hxr : (x : Int) ∈ r := List.mem_of_getElem? h
  have et : r.take (j + 1) = r.take j ++ [(x : Int)] := by
    rw [List.take_succ, h]
    rfl
  refine ⟨by rw [List.length_set]; exact hl, fun z m2 hz y => ?_⟩
  rw [et]
  by_cases e : z = x
  · subst e
    rw [List.getElem?_set_self hx] at hz
    cases hz
    rw [Nat.testBit_or, xor_pow, hb z m hm y, maskL_bit hr]
    by_cases e2 : z = y
    · subst e2
      simp [hxr]
    · by_cases hy : (y : Int) ∈ r
      · simp [e2, hy]
      · simp [e2, hy]
  · rw [List.getElem?_set_ne (fun q => e q.symm)] at hz
    rw [hb z m2 hz y]
    have : ¬ ((z : Int) = (x : Int)) := fun q => e (by omega)
    simp [this]
theorem near_in_end {n : Int} {rows : List (List Int)} {r : List Int} {i : Nat} {ms : List Nat} (h : rows[i]? = some r) (N : NearIn n (rows.take i) r r ms) : NearOk n (rows.take (i + 1)) ms := by
  refine ⟨N.1, fun x m hm y => ?_⟩
  rw [N.2 x m hm y, near_step (n := n) h]
  congr 1
  apply propext
  simp [Bool.or_eq_true, Bool.and_eq_true]
theorem near_in_start {n : Int} {rows : List (List Int)} {r : List Int} {ms : List Nat} (N : NearOk n rows ms) : NearIn n rows r [] ms :=
  ⟨N.1, fun x m hm y => by rw [N.2 x m hm y]; simp⟩
theorem near_start (n : Int) : NearOk n [] (List.replicate n.toNat 0) :=
  ⟨List.length_replicate, fun x m hm y => by
    have hmem := List.mem_of_getElem? hm
    rw [(List.mem_replicate.mp hmem).2]
    simp [tiedB]⟩
theorem flat_zero (k : Nat) : (List.replicate k [V.int 0]).flatten = (natI (List.replicate k 0)).map V.int := by
  induction k with
  | zero => rfl
  | succ k ih =>
    rw [List.replicate_succ, List.flatten_cons, ih]
    rfl
theorem rowAt {rows : List (List Int)} {n : Int} (h : RowsIn n rows) {i : Nat} {r : List Int} (e : rows[i]? = some r) : ∀ x ∈ r, 0 ≤ x ∧ x < n := h r (List.mem_of_getElem? e)
theorem same_upd2 {H H1 : Hp} {N : Addr} {o : HO} (n : H N = none) (s : Same H H1) : Same H (upd H1 N o) := fun b u e => by
  rw [upd_ne (ne_of_none e n)]
  exact s _ _ e
section
variable {P : Program} {w : World} {K : PySem.W.Frag} {mg : Str → Option Value} {base : Heap} {ad : Nat → Addr} {fd : Nat → FuncData}
theorem ok_near_masks (T : Txt K mg ad fd) : FnOk P w K mg base CX0 2 (ad 18) (fd 18) ["book"] (spNear K) := by
  refine T.F_near_masks.ok sc_near_masks (fun vs H Q E h => ?_) (fun cdv A outer s H vs Q E hr h => ?_)
  · obtain ⟨v, n, rows, rfl, _⟩ := h
    rfl
  · obtain ⟨v, n, rows, rfl, h, hin, h0, h1, k⟩ := h
    obtain ⟨b, L, xs, rfl, hb, hL, hz, hr2⟩ := rp_book h
    have lx : xs.length = rows.length := by rw [hr2.length, List.length_map]
    refine ⟨_, (pss_cons (ps_asg (pv 0) (pg_tup rfl (pgs_cons (pg_name (i := 3) (x := "size") sc_near_masks.nd rfl (Or.inl rfl)) (pgs_cons (pg_name (i := 4) (x := "lists") sc_near_masks.nd rfl (Or.inl rfl)) pgs_nil))))
  (pss_cons (ps_set (i := 1) sc_near_masks.nd rfl (Or.inl rfl) (pe_op op_rep (pe_lst (pa_cons pe_int pa_nil)) (pv 3)))
  (pss_cons (ps_for PassesOwn.never rfl (piT K (pv 4)) (pg_name (i := 2) (x := "things") sc_near_masks.nd rfl (Or.inl rfl))
  (pss_cons (ps_set (i := 5) sc_near_masks.nd rfl (Or.inl rfl) (pe_call (ok_mask_of T) (hr.mono (by decide)) rfl T.m_mask_of T.F_mask_of.kp (b_mask_of T) .nil pass0 (pa_cons (pv 2) pa_nil)))
  (pss_one (ps_for PassesOwn.never rfl (piT K (pv 2)) (pg_name (i := 6) (x := "thing") sc_near_masks.nd rfl (Or.inl rfl))
  (pss_one (ps_asg (pe_op op_or (pe_ix (ixL K) (pv 1) (pv 6) (fun _ _ => rfl)) (pe_op op_xor (pv 5) (pe_op op_shl pe_int (pv 6)))) (pg_sub (pv 1) (pv 6) set_list)))))))
  (pss_one (ps_ret (pv 1)))))), ?_⟩
    refine ⟨_, rfl, b, _, rfl, hb, rfl, _, _, rfl, _, _, rfl, rfl, (by show 1 ≤ sizeLine; decide), fun D0 hD0 => ⟨_, rfl, D0, n, _, rfl, rfl, upd_same, by omega, by omega, ?_, fun N hN0 => ?_⟩⟩
    · show 1 * n.toNat ≤ sizeLine
      have : (1000 : Nat) ≤ sizeLine := by decide
      omega
    have hN : H N = none := (same_upd hD0).free hN0
    refine ⟨_, rfl, L, rfl, ⟨_, seqT (same_upd2 hN (same_upd hD0)) hL⟩, for_tup (K := K) (a := L) (xs := xs)
      (fun i σ H1 => ∃ (ms : List Nat) (v2 v5 v6 : Option V), σ = [some (.ref b), some (.ref N), v2, some (.int n), some (.ref L), v5, v6] ∧ Same H H1 ∧ H1 N = some (.lst ((natI ms).map V.int)) ∧ NearOk n (rows.take i) ms)
      ⟨List.replicate n.toNat 0, none, none, none, rfl, same_upd2 hN (same_upd hD0), by rw [upd_same, flat_zero], near_start n⟩ (fun i σ H1 _ ⟨_, _, _, _, _, s1, _⟩ => seqT s1 hL) (fun i x σ H1 hi ⟨ms, v2, v5, v6, e1, s1, hm1, nk⟩ => ?_) (fun σ H1 ⟨ms, v2, v5, v6, e1, s1, hm1, nk⟩ => ?_)⟩
    · subst e1
      obtain ⟨r, a, hrow, rfl, t⟩ := hr2.row hi
      have hin2 := rowAt hin hrow
      have t1 := t.same s1
      refine ⟨_, rfl, a, r, rfl, .inr t1.1, fun x hx => ⟨(hin2 x hx).1, by have := (hin2 x hx).2; omega⟩, ?_⟩
      refine ⟨_, rfl, a, rfl, ⟨_, t1.1⟩, for_tup (K := K) (a := a) (xs := r.map V.int)
        (fun j σ H1 => ∃ (ms : List Nat) (v6 : Option V), σ = [some (.ref b), some (.ref N), some (.ref a), some (.int n), some (.ref L), some (.int (maskL r : Nat)), v6] ∧ Same H H1 ∧ H1 N = some (.lst ((natI ms).map V.int)) ∧ NearIn n (rows.take i) r (r.take j) ms)
        ⟨ms, v6, rfl, s1, hm1, near_in_start nk⟩ (fun i σ H1 _ ⟨_, _, _, s1, _⟩ => seqT s1 t.1) (fun j x σ H2 hj ⟨ms2, v62, e2, s2, hm2, nk2⟩ => ?_) (fun σ H2 ⟨ms2, v62, e2, s2, hm2, nk2⟩ => ?_)⟩
      · subst e2
        obtain ⟨z, hz2, rfl⟩ := intAt hj
        obtain ⟨hz0, hz1⟩ := hin2 z (List.mem_of_getElem? hz2)
        obtain ⟨x, rfl⟩ : ∃ x : Nat, z = (x : Int) := ⟨z.toNat, by omega⟩
        have hxl : x < ms2.length := by rw [nk2.1]; omega
        obtain ⟨m, hm⟩ : ∃ m, ms2[x]? = some m := ⟨ms2[x], List.getElem?_eq_getElem hxl⟩
        refine ⟨_, rfl, _, rfl, N, _, _, _, rfl, rfl, SqL.of hm2, atI_nat (natI_get hm), ?_⟩
        refine ⟨_, rfl, _, rfl, 1, (x : Int), rfl, rfl, ⟨by omega, by omega, by decide⟩, _, _, rfl, rfl, _, _, rfl, rfl, _, rfl, _, rfl, N, _, (x : Int), x, rfl, rfl, hm2, ixN_nat (by rw [List.length_map, natI_length]; exact hxl), ?_⟩
        have ez : Builtin.bitOr (m : Int) (Builtin.bitXor (maskL r : Int) (1 * 2 ^ ((x : Int)).toNat)) = ((m ||| (maskL r ^^^ 2 ^ x) : Nat) : Int) := by
          rw [shl1 (by omega), xor_nat, or_nat]
          rfl
        refine ⟨ms2.set x (m ||| (maskL r ^^^ 2 ^ x)), _, rfl, same_upd2 hN s2, ?_, near_in_step (fun z hz => (hin2 z hz).1) hz2 nk2 hm⟩
        rw [upd_same]
        show some (HO.lst (((natI ms2).map V.int).set x (.int (Builtin.bitOr (m : Int) (Builtin.bitXor (maskL r : Int) (1 * 2 ^ ((x : Int)).toNat)))))) = _
        rw [ez, natI_set]
      · subst e2
        refine ⟨ms2, _, _, _, rfl, s2, hm2, ?_⟩
        rw [List.length_map, List.take_length] at nk2
        exact near_in_end hrow nk2
    · subst e1
      refine ⟨_, rfl, k N ms H1 s1 hN hm1 ?_⟩
      rw [lx, List.take_length] at nk
      exact nk
end
end LK
namespace LK
open PySem PySem.Spec PyProof.Rows L2
def nearN (n : Int) (rows : List (List Int)) (x : Int) : List Nat := (List.range n.toNat).filter fun (y : Nat) => decide (x ≠ (y : Int) ∧ tiedB rows x y = true)
theorem tied_mem {rows : List (List Int)} {x y : Int} (h : tiedB rows x y = true) : ∃ r ∈ rows, x ∈ r ∧ y ∈ r := by
  unfold tiedB at h
  obtain ⟨r, hr, h2⟩ := List.any_eq_true.mp h
  simp at h2
  exact ⟨r, hr, h2⟩
theorem tied_comm (rows : List (List Int)) (x y : Int) : tiedB rows x y = tiedB rows y x := by
  unfold tiedB
  congr 1
  funext r
  exact Bool.and_comm _ _
theorem near_bits {n : Int} {rows : List (List Int)} {ms : List Nat} (hin : RowsIn n rows) (N : NearOk n rows ms) {x m : Nat} (h : ms[x]? = some m) : m < 2 ^ n.toNat ∧ bitL n.toNat m = nearN n rows x := by
  have hb := N.2 x m h
  refine ⟨lt_of_bits fun i hi => ?_, ?_⟩
  · rw [hb i, decide_eq_true_eq] at hi
    obtain ⟨r, hr, _, hy⟩ := tied_mem hi.2
    have := hin r hr _ hy
    omega
  · unfold bitL nearN
    congr 1
    funext y
    rw [hb y]
    congr 1
    apply propext
    constructor
    · rintro ⟨a, b⟩
      exact ⟨by omega, b⟩
    · rintro ⟨a, b⟩
      exact ⟨by omega, b⟩
def nearOfX (n : Int) (rows : List (List Int)) (d : PyData) : Except (Str × Int) PyData := if isBelow n d then .ok (dTup (natI (nearN n rows (toInt d)))) else .error ("here", -1)
def BookIn (n : Int) (rows : List (List Int)) : Prop := RowsIn n rows ∧ 0 ≤ n ∧ n ≤ 1000
def isTiedX (n : Int) (rows : List (List Int)) (d e : PyData) : Except (Str × Int) PyData :=
  if isBelow n d then (if isBelow n e && decide (toInt e ≠ toInt d) then .ok (.bool (tiedB rows (toInt d) (toInt e))) else .error ("there", -1)) else .error ("here", -1)
def betweenN (n : Int) (rows : List (List Int)) (x y : Int) : List Nat := ((List.range n.toNat).filter fun (z : Nat) => decide ((x ≠ (z : Int) ∧ tiedB rows x z = true) ∧ (y ≠ (z : Int) ∧ tiedB rows y z = true))).filter fun (z : Nat) => decide (x < (z : Int)) && decide ((z : Int) < y)
def betweenX (n : Int) (rows : List (List Int)) (d : PyData) : Except (Str × Int) PyData :=
  if isTie n rows d then .ok (dTup (natI (betweenN n rows ((dInts d).getD 0 0) ((dInts d).getD 1 0)))) else .error ("tie", -1)
def spX2 (K : PySem.W.Frag) (C : Addr) (ok : Int → List (List Int) → Prop) (g : Int → List (List Int) → PyData → PyData → Except (Str × Int) PyData) : Sp :=
  fun vs H Q E => ∃ v u1 u2 d1 d2 n rows, vs = [v, u1, u2] ∧ Rp K H v (bookD n rows) ∧ Rp K H u1 d1 ∧ Rp K H u2 d2 ∧ ok n rows ∧ Out K C Q E H (g n rows d1 d2)
def spBetw (K : PySem.W.Frag) : Sp := fun vs H Q _ => ∃ (N : Addr) (x y : Nat) (n : Int) (rows : List (List Int)) (ms : List Nat), vs = [.ref N, .int x, .int y] ∧ H N = some (.lst ((natI ms).map V.int)) ∧ NearOk n rows ms ∧ BookIn n rows ∧ (x : Int) < n ∧ (y : Int) < n ∧
  ∀ p H', Same H H' → TupI K H' p (natI (betweenN n rows x y)) → Q (.ref p) H'
theorem filter_len {α : Type} {p : α → Bool} {l : List α} {k : Nat} (h : l.length ≤ k) : (l.filter p).length ≤ k := Nat.le_trans (List.length_filter_le _ _) h
section
variable {P : Program} {w : World} {K : PySem.W.Frag} {mg : Str → Option Value} {base : Heap} {ad : Nat → Addr} {fd : Nat → FuncData}
theorem ok_between_in (T : Txt K mg ad fd) : FnOk P w K mg base CX0 2 (ad 21) (fd 21) ["near", "low", "high"] (spBetw K) := by
  refine T.F_between_in.ok sc_between_in (fun vs H Q E h => ?_) (fun cdv A outer s H vs Q E hr h => ?_)
  · obtain ⟨N, x, y, n, rows, ms, rfl, _⟩ := h
    rfl
  · obtain ⟨N, x, y, n, rows, ms, rfl, hN, nk, ⟨hin, h0, h1⟩, hx, hy, k⟩ := h
    have hxl : x < ms.length := by rw [nk.1]; omega
    have hyl : y < ms.length := by rw [nk.1]; omega
    obtain ⟨m1, hm1⟩ : ∃ m, ms[x]? = some m := ⟨ms[x], List.getElem?_eq_getElem hxl⟩
    obtain ⟨m2, hm2⟩ : ∃ m, ms[y]? = some m := ⟨ms[y], List.getElem?_eq_getElem hyl⟩
    obtain ⟨hlt1, _⟩ := near_bits hin nk hm1
    refine ⟨_, (pss_one (ps_ret (pe_callTy (tupOf K) (by rfl) T.g_tuple (by decide +kernel) (pa_cons (pe_lc (own := [("thing", 3)]) (g := gName 3) rfl sc_between_in.nd (piT K (pe_call (ok_things_of T) (hr.mono (by decide)) rfl T.m_things_of T.F_things_of.kp (b_things_of T) .nil pass0 (pa_cons (pe_op op_and (pe_ix (ixL K) (pv 0) (pv 1) (fun _ _ => rfl)) (pe_ix (ixL K) (pv 0) (pv 2) (fun _ _ => rfl))) pa_nil))) (blkOk_by (N := ["near", "low", "high", "thing"]) (sc := defScope s_between_in) (by decide +kernel)) (fun _ _ _ _ _ => (pg_name (i := 3) (x := "thing") sc_between_in.nd rfl (Or.inl rfl))) (fun _ _ _ _ _ => (pts_one (PW.pt (pw_and (pt_cmpR op_lt (pv 1) (pv 3) (nomark _)) (pw_and1 (pt_cmpR op_lt (pv 3) (pv 2) (nomark _))))))) (fun _ _ _ _ _ => (pv 3))) pa_nil)))), ?_⟩
    refine ⟨_, rfl, _, rfl, N, _, _, _, rfl, rfl, SqL.of hN, atI_nat (natI_get hm1), _, rfl, _, rfl, N, _, _, _, rfl, rfl, SqL.of hN, atI_nat (natI_get hm2), _, _, rfl, rfl, ?_⟩
    have ez : Builtin.bitAnd (m1 : Int) (m2 : Int) = ((m1 &&& m2 : Nat) : Int) := and_nat m1 m2
    refine ⟨m1 &&& m2, n.toNat, congrArg (fun z => [V.int z]) ez, Nat.lt_of_le_of_lt Nat.and_le_left hlt1, by omega, fun a H1 s1 ta => ⟨a, rfl, ⟨_, ta.1⟩, fun D hD => ?_⟩⟩
    have ebl : bitL n.toNat (m1 &&& m2) = (List.range n.toNat).filter fun (z : Nat) => decide (((x : Int) ≠ (z : Int) ∧ tiedB rows x z = true) ∧ ((y : Int) ≠ (z : Int) ∧ tiedB rows y z = true)) := by
      unfold bitL
      congr 1
      funext z
      rw [Nat.testBit_and, nk.2 x m1 hm1 z, nk.2 y m2 hm2 z, ← Bool.decide_and]
      congr 1
      apply propext
      constructor
      · rintro ⟨⟨a1, a2⟩, b1, b2⟩
        exact ⟨⟨by omega, a2⟩, by omega, b2⟩
      · rintro ⟨⟨a1, a2⟩, b1, b2⟩
        exact ⟨⟨by omega, a2⟩, by omega, b2⟩
    generalize hl : bitL n.toNat (m1 &&& m2) = l at *
    have hll : l.length ≤ 1000 := by
      rw [← hl]
      exact filter_len (by rw [List.length_range]; omega)
    refine lcT (K := K) (xs := (natI l).map V.int) (fun j => decide ((x : Int) < (natI l).getD j 0) && decide ((natI l).getD j 0 < (y : Int))) (fun j => .int ((natI l).getD j 0)) hD ta.1 (by rw [List.length_map]; exact ta.2) (fun _ _ _ => rfl) (fun j v H2 hj s2 Q1 Q2 k1 k2 => ?_) (fun ys H2 s2 hy2 r2 => ?_)
    · have ev : v = .int ((natI l).getD j 0) := by
        have hl : j < (natI l).length := by
          have := (List.getElem?_eq_some_iff.mp hj).1
          simpa using this
        rw [mapD hl] at hj
        exact (Option.some.inj hj).symm
      subst ev
      refine ⟨rfl, _, rfl, _, rfl, _, _, rfl, rfl, _, rfl, ?_⟩
      by_cases c1 : (x : Int) < (natI l).getD j 0
      · rw [decide_eq_true c1]
        refine iteT ⟨_, rfl, _, rfl, _, _, rfl, rfl, _, rfl, ?_⟩
        by_cases c2 : (natI l).getD j 0 < (y : Int)
        · rw [decide_eq_true c2]
          exact iteT ⟨_, rfl, k1 (by rw [decide_eq_true c1, decide_eq_true c2]; rfl) _ _ (Same.refl _) (.int _)⟩
        · rw [decide_eq_false c2]
          exact iteF (k2 (by rw [decide_eq_false c2]; exact Bool.and_false _) _ (Same.refl _))
      · rw [decide_eq_false c1]
        exact iteF (k2 (by rw [decide_eq_false c1]; rfl) _ (Same.refl _))
    · have ez2 : (((List.range ((natI l).map V.int).length).filter fun j => decide ((x : Int) < (natI l).getD j 0) && decide ((natI l).getD j 0 < (y : Int))).map fun j => PyData.int ((natI l).getD j 0)) = (natI (betweenN n rows x y)).map PyData.int := by
        rw [List.length_map, filter_map_range (fun z => decide ((x : Int) < z) && decide (z < (y : Int))) PyData.int 0 (natI l)]
        unfold betweenN
        rw [← ebl]
        unfold natI
        rw [List.filter_map, List.map_map]
        rw [List.map_map]
        rfl
      rw [ez2] at r2
      have := r2.ofInts
      subst this
      dsimp only [tNil]
      refine tupL_use (SqL.of hy2) fun p H3 s3 hp => k _ _ ((s1.trans s2).trans s3) ⟨hp, ?_⟩
      unfold natI betweenN
      rw [List.length_map]
      exact filter_len (filter_len (by rw [List.length_range]; omega))
end
end LK
namespace LK
open PySem PySem.Spec PyProof.Rows L2
/-- the ties, ascending -/
def tiesAt (n : Int) (rows : List (List Int)) (x : Nat) : List (List Int) := ((nearN n rows x).filter fun (y : Nat) => decide ((x : Int) < (y : Int))).map fun (y : Nat) => [(x : Int), (y : Int)]
def tiesL (n : Int) (rows : List (List Int)) : List (List Int) := (List.range n.toNat).flatMap (tiesAt n rows)
theorem range_gt : ∀ (n x : Nat), ((List.range n).filter fun (y : Nat) => decide ((x : Int) < (y : Int))).length ≤ n - 1 - x
  | 0, x => by simp
  | n + 1, x => by
    rw [List.range_succ, List.filter_append, List.length_append]
    have ih := range_gt n x
    by_cases c : (x : Int) < (n : Int)
    · have e : ([n].filter fun (y : Nat) => decide ((x : Int) < (y : Int))).length ≤ 1 := List.length_filter_le _ _
      omega
    · have e : ([n].filter fun (y : Nat) => decide ((x : Int) < (y : Int))) = [] := by simp; omega
      rw [e]
      have e2 : ((List.range n).filter fun (y : Nat) => decide ((x : Int) < (y : Int))) = [] := by
        rw [List.filter_eq_nil_iff]
        intro y hy
        have := List.mem_range.mp hy
        simp
        omega
      rw [e2]
      simp
theorem tiesAt_len (n : Int) (rows : List (List Int)) (x : Nat) : (tiesAt n rows x).length ≤ n.toNat - 1 - x := by
  unfold tiesAt nearN
  rw [List.length_map, List.filter_filter]
  have e : ((List.range n.toNat).filter fun (a : Nat) => decide ((x : Int) < (a : Int)) && decide ((x : Int) ≠ (a : Int) ∧ tiedB rows x a = true)).length ≤ ((List.range n.toNat).filter fun (y : Nat) => decide ((x : Int) < (y : Int))).length := by
    rw [← List.countP_eq_length_filter, ← List.countP_eq_length_filter]
    refine List.countP_mono_left fun y _ h => ?_
    simp only [Bool.and_eq_true] at h
    exact h.1
  exact Nat.le_trans e (range_gt _ _)
theorem sum_le {f g : Nat → Nat} : ∀ l : List Nat, (∀ x ∈ l, f x ≤ g x) → (l.map f).sum ≤ (l.map g).sum
  | [], _ => Nat.le_refl _
  | a :: l, h => by
    rw [List.map_cons, List.map_cons, List.sum_cons, List.sum_cons]
    exact Nat.add_le_add (h a (by simp)) (sum_le l fun x hx => h x (by simp [hx]))
theorem tri45 : ∀ n : Fin 46, ((List.range n.val).map fun x => n.val - 1 - x).sum ≤ 1000 := by decide +kernel
theorem tiesL_len {n : Int} (rows : List (List Int)) (h : n ≤ 45) : (tiesL n rows).length ≤ 1000 := by
  unfold tiesL
  rw [List.length_flatMap]
  have h1 := sum_le (f := fun x => (tiesAt n rows x).length) (g := fun x => n.toNat - 1 - x) (List.range n.toNat) fun x _ => tiesAt_len n rows x
  have h2 := tri45 ⟨n.toNat, by omega⟩
  exact Nat.le_trans h1 h2
def spTies (K : PySem.W.Frag) : Sp := fun vs H Q _ => ∃ v n rows, vs = [v] ∧ Rp K H v (bookD n rows) ∧ RowsIn n rows ∧ 0 ≤ n ∧ n ≤ 45 ∧ ∀ u H', Same H H' → Rp K H' u (.tuple ((tiesL n rows).map dTup)) → Q u H'
theorem seqT_upd {K : PySem.W.Frag} {H : Hp} {D a : Addr} {zs xs : List V} {o : HO} (hD : H D = some (.lst zs)) (s : SqT K H a xs) : SqT K (upd H D o) a xs := by
  rcases s with (s | ⟨u, s⟩) | s
  · exact .inl (.inl (by rw [upd_ne (ne_of s hD (by intro z; cases z))]; exact s))
  · exact .inl (.inr ⟨u, by rw [upd_ne (ne_of s hD (by intro z; cases z))]; exact s⟩)
  · exact .inr s
section
variable {P : Program} {w : World} {K : PySem.W.Frag} {mg : Str → Option Value} {base : Heap} {ad : Nat → Addr} {fd : Nat → FuncData}
theorem ok_ties_of (T : Txt K mg ad fd) : FnOk P w K mg base CX0 3 (ad 20) (fd 20) ["book"] (spTies K) := by
  refine T.F_ties_of.ok sc_ties_of (fun vs H Q E h => ?_) (fun cdv A outer s H vs Q E hr h => ?_)
  · obtain ⟨v, n, rows, rfl, _⟩ := h
    rfl
  · obtain ⟨v, n, rows, rfl, h, hin, h0, h1, k⟩ := h
    obtain ⟨b, L, xs, rfl, hb, hL, hz, hr2⟩ := rp_book h
    refine ⟨_, (pss_cons (ps_set (i := 1) sc_ties_of.nd rfl (Or.inr rfl) (pe_call (ok_near_masks T) (hr.mono (by decide)) rfl T.m_near_masks T.F_near_masks.kp (b_near_masks T) .nil pass0 (pa_cons (pv 0) pa_nil)))
  (pss_one (ps_ret (pe_callTy (tupOf K) (by rfl) T.g_tuple (by decide +kernel) (pa_cons (pe_lc2 (own := [("low", 2), ("high", 3)]) (vs1 := [3]) (g := gName 2) (g1 := gName 3) rfl sc_ties_of.nd (pi_range1 rfl T.g_range (pa_cons (pe_ix (ixT K) (pv 0) pe_int (fun _ _ => rfl)) pa_nil)) (blkOk_by (N := ["book", "near", "low", "high"]) (sc := defScope s_ties_of) (by decide +kernel)) (by decide) (fun _ _ _ _ _ => (pg_name (i := 2) (x := "low") sc_ties_of.nd rfl (Or.inl rfl))) (fun _ _ _ _ _ => pts_nil) (fun _ _ _ _ _ => (piT K (pe_call (ok_things_of T) (hr.mono (by decide)) rfl T.m_things_of T.F_things_of.kp (b_things_of T) .nil pass0 (pa_cons (pe_ix (ixL K) (pv 1) (pv 2) (fun _ _ => rfl)) pa_nil)))) (fun _ _ _ _ _ => (pg_name (i := 3) (x := "high") sc_ties_of.nd rfl (Or.inl rfl))) (fun _ _ _ _ _ => (pts_one (pt_cmpR op_lt (pv 2) (pv 3) (nomark _)))) (fun _ _ _ _ _ => (pe_tup (pa_cons (pv 2) (pa_cons (pv 3) pa_nil))))) pa_nil))))), ?_⟩
    refine ⟨_, rfl, _, n, rows, rfl, h, hin, h0, by omega, fun N ms H1 s1 hN hm nk => ?_⟩
    refine ⟨_, rfl, _, _, _, _, rfl, rfl, seqT s1 hb, rfl, n, rfl, by omega, by omega, fun D hD => ?_⟩
    have ND : N ≠ D := ne_of_none hm hD
    let Pv : Nat → Hp → Prop := fun i H2 => ∃ ys, Fill H1 D H2 ys ∧ RpAll K H2 ys (((List.range i).flatMap (tiesAt n rows)).map dTup)
    have nol : ∀ l : List (List Int), noLs (l.map dTup) = true := noLs_rows
    refine ⟨fun i m H2 => m = n.toNat - i ∧ i ≤ n.toNat ∧ Pv i H2, ⟨n.toNat, by omega, Nat.zero_le _, [], Fill.start hD, .nil⟩, ?_⟩
    rintro i m H2 ⟨rfl, hi, ys, fl, r⟩
    by_cases hlt : i < n.toNat
    · refine .inr ⟨hlt, Pv (i + 1), fun H' p' => ⟨n.toNat - (i + 1), by omega, rfl, hlt, p'⟩, fun x H3 y => ?_⟩
      obtain ⟨rfl, rfl⟩ := y
      refine ⟨rfl, ?_⟩
      have hxl : i < ms.length := by rw [nk.1]; exact hlt
      obtain ⟨m1, hm1⟩ : ∃ m, ms[i]? = some m := ⟨ms[i], List.getElem?_eq_getElem hxl⟩
      obtain ⟨hlt1, hbl⟩ := near_bits hin nk hm1
      have hm2 : H3 N = some (.lst ((natI ms).map V.int)) := fl.1 _ _ hm
      refine ⟨_, rfl, _, rfl, N, _, _, _, rfl, rfl, SqL.of hm2, at_of (j := i) (by omega) (natI_get hm1), m1, n.toNat, rfl, hlt1, by omega, fun a H4 s4 ta => ?_⟩
      rw [hbl] at ta
      refine ⟨a, rfl, ⟨_, ta.1⟩, ?_⟩
      have lys : ys.length ≤ 1000 := by
        rw [r.length, List.length_map]
        refine Nat.le_trans ?_ (tiesL_len (n := n) rows h1)
        unfold tiesL
        have e : List.range n.toNat = List.range i ++ (List.range (n.toNat - i)).map (i + ·) := by
          have := List.range_add (n := i) (m := n.toNat - i)
          rw [← this]
          congr 1
          omega
        rw [e, List.flatMap_append, List.length_append]
        omega
      let Pw : Nat → Hp → Prop := fun j H5 => ∃ zs, Fill H1 D H5 zs ∧ SqT K H5 a ((natI (nearN n rows i)).map V.int) ∧ zs.length ≤ 1000 + j ∧
        RpAll K H5 zs ((((List.range i).flatMap (tiesAt n rows)) ++ ((((nearN n rows i).take j).filter fun (y : Nat) => decide ((i : Int) < (y : Int))).map fun (y : Nat) => [(i : Int), (y : Int)])).map dTup)
      have lnn : (nearN n rows i).length ≤ 1000 := by
        unfold nearN
        exact filter_len (by rw [List.length_range]; omega)
      refine ⟨fun j m H5 => m = (nearN n rows i).length - j ∧ j ≤ (nearN n rows i).length ∧ Pw j H5, ⟨_, rfl, Nat.zero_le _, ys, ⟨fl.1.trans s4, s4 _ _ fl.2⟩, ta.1, by omega, by simpa using r.same s4⟩, ?_⟩
      rintro j mm H5 ⟨rfl, hj, zs, fz, sa, lz, rz⟩
      by_cases hjl : j < (nearN n rows i).length
      · have hjv : ((natI (nearN n rows i)).map V.int)[j]? = some (.int ((nearN n rows i)[j] : Nat)) := natI_get (List.getElem?_eq_getElem hjl)
        refine .inr ⟨⟨_, _, sa, hjv⟩, Pw (j + 1), fun H' p' => ⟨(nearN n rows i).length - (j + 1), by omega, rfl, hjl, p'⟩, fun x H6 y => ?_⟩
        obtain ⟨e6, y⟩ := y
        subst e6
        have ex := y _ sa
        rw [hjv] at ex
        have ex := (Option.some.inj ex).symm
        subst ex
        refine ⟨rfl, _, rfl, _, rfl, _, _, rfl, rfl, _, rfl, ?_⟩
        have et : (nearN n rows i).take (j + 1) = (nearN n rows i).take j ++ [(nearN n rows i)[j]] := by
          rw [List.take_succ, List.getElem?_eq_getElem hjl]
          rfl
        show if decide (((0 : Int) + (i : Nat)) < (((nearN n rows i)[j] : Nat) : Int)) = true then _ else _
        have ei : (0 : Int) + (i : Nat) = (i : Int) := by omega
        rw [ei]
        by_cases c : (i : Int) < (((nearN n rows i)[j] : Nat) : Int)
        · rw [decide_eq_true c]
          refine iteT ⟨_, rfl, _, rfl, (by show 2 ≤ sizeLine; decide), fun p hp => ?_⟩
          have sp : Same H6 (upd H6 p (.tup [V.int (i : Int), V.int (((nearN n rows i)[j] : Nat) : Int)])) := same_upd hp
          refine ⟨zs, sp _ _ fz.2, Nat.lt_of_le_of_lt lz (by have : (3000 : Nat) < sizeLine := (by decide); omega), zs ++ [.ref p], fz.push hD sp, seqT_upd (sp _ _ fz.2) (seqT sp sa), by rw [List.length_append, List.length_singleton]; omega, ?_⟩
          rw [et, List.filter_append]
          have e1 : ([(nearN n rows i)[j]].filter fun (y : Nat) => decide ((i : Int) < (y : Int))) = [(nearN n rows i)[j]] := by simp; omega
          rw [e1, List.map_append (f := fun (y : Nat) => [(i : Int), (y : Int)]), ← List.append_assoc, List.map_append (f := dTup)]
          refine RpAll.upd (sp _ _ fz.2) ?_ ((rz.same sp).app (.one ?_))
          · have := nol ((((List.range i).flatMap (tiesAt n rows)) ++ ((((nearN n rows i).take j).filter fun (y : Nat) => decide ((i : Int) < (y : Int))).map fun (y : Nat) => [(i : Int), (y : Int)])) ++ [[(i : Int), (((nearN n rows i)[j] : Nat) : Int)]])
            rw [List.map_append] at this
            exact this
          · exact TupI.rp (ns := [(i : Int), (((nearN n rows i)[j] : Nat) : Int)]) ⟨SqT.of upd_same, by show 2 ≤ 1000; decide⟩
        · rw [decide_eq_false c]
          refine iteF ⟨zs, fz, sa, by omega, ?_⟩
          rw [et, List.filter_append]
          have e1 : ([(nearN n rows i)[j]].filter fun (y : Nat) => decide ((i : Int) < (y : Int))) = [] := by simp [c]; omega
          rw [e1, List.append_nil]
          exact rz
      · have hje : j = (nearN n rows i).length := by omega
        refine .inl ⟨⟨_, sa, by rw [List.length_map, natI_length]; omega⟩, zs, fz, ?_⟩
        rw [List.range_succ, List.flatMap_append]
        rw [hje, List.take_length] at rz
        simpa [tiesAt] using rz
    · have hie : i = n.toNat := by omega
      refine .inl ⟨by show n.toNat ≤ i; omega, ?_⟩
      subst hie
      dsimp only [tNil]
      refine tupL_use (SqL.of fl.2) fun p H4 s4 hp => k _ _ ((s1.trans fl.1).trans s4) ?_
      refine .tup hp ?_ (r.same s4)
      rw [r.length, List.length_map]
      exact tiesL_len rows h1
end
end LK
/-! comprehensions whose elements may hold lists -/
namespace LK
open PySem PySem.Spec PyProof.Rows L2
/-- at D the values so far, all else stands -/
def FillH (K : PySem.W.Frag) (H : Hp) (D : Addr) (H' : Hp) (xs : List V) (ds : List PyData) : Prop := Fill H D H' xs ∧ RpAll K (hide D H') xs ds
theorem fillH_start {K : PySem.W.Frag} {H : Hp} {D : Addr} (n : H D = none) : FillH K H D (upd H D (.lst [])) [] [] := ⟨Fill.start n, .nil⟩
theorem fillH_push {K : PySem.W.Frag} {H H1 H2 : Hp} {D : Addr} {xs : List V} {ds : List PyData} {y : V} {d : PyData} (n : H D = none) (f : FillH K H D H1 xs ds) (s : Same H1 H2) (r : Rp K (hide D H2) y d) : FillH K H D (upd H2 D (.lst (xs ++ [y]))) (xs ++ [y]) (ds ++ [d]) :=
  ⟨f.1.push n s, by rw [hide_upd_self]; exact (f.2.same (hide_mono s)).app (.cons r .nil)⟩
theorem fillH_same {K : PySem.W.Frag} {H H1 H2 : Hp} {D : Addr} {xs : List V} {ds : List PyData} (f : FillH K H D H1 xs ds) (s : Same H1 H2) : FillH K H D H2 xs ds := ⟨⟨f.1.1.trans s, s _ _ f.1.2⟩, f.2.same (hide_mono s)⟩
/-- what stood ahead is not at D -/
theorem old_hide {H H' : Hp} {D : Addr} (n : H D = none) (s : Same H H') : Same H (hide D H') := fun b u e => by
  rw [hide_ne (ne_of_none e n)]
  exact s _ _ e
theorem lcLH {K : PySem.W.Frag} {a : Addr} {xs : List V} {g : TG} {tt : TT} {te : TE} {vs : List Nat} {σ : L2.St} {H : Hp} {D : Addr} {Qd : Hp → Prop} (p : Nat → Bool) (f : Nat → PyData) (hD : H D = none) (hx : SqL K H a xs) (hz : xs.length ≤ 1000)
    (hs : ∀ (i : Nat) (x : V) (H1 : Hp), xs[i]? = some x → Same H H1 → (∃ ys, H1 D = some (.lst ys)) → ∀ (Q : VK) (Q' : Hp → Prop), (p i = true → ∀ y H2, Same H1 H2 → Rp K (hide D H2) y (f i) → Q y H2) → (p i = false → ∀ H2, Same H1 H2 → Q' H2) →
      g x (wipe σ vs) H1 fun σ2 H2 => wipe σ2 vs = wipe σ vs ∧ tt σ2 H2 fun b H3 => if b = true then te σ2 H3 Q else Q' H3)
    (hd : ∀ ys H1, Same H H1 → H1 D = some (.lst ys) → ys.length ≤ xs.length → RpAll K (hide D H1) ys (((List.range xs.length).filter p).map f) → Qd H1) :
    ∃ W : Nat → Nat → Hp → Prop, (∃ m, W 0 m (upd H D (.lst []))) ∧ ∀ i m H, W i m H →
      ((Itl K a).stop i H ∧ Qd H) ∨ ((Itl K a).go i H ∧ ∃ Nx : Hp → Prop, (∀ H', Nx H' → ∃ m', m' < m ∧ W (i + 1) m' H') ∧ ∀ x H', (Itl K a).yld i H x H' → g x (wipe σ vs) H' fun σ2 H2 => wipe σ2 vs = wipe σ vs ∧ tt σ2 H2 fun b H3 =>
        if b = true then te σ2 H3 fun y H4 => ∃ acc, H4 D = some (.lst acc) ∧ acc.length < sizeLine ∧ Nx (upd H4 D (.lst (acc ++ [y]))) else Nx H3) := by
  refine lc_list (fun i H1 => ∃ ys, FillH K H D H1 ys (((List.range i).filter p).map f) ∧ ys.length ≤ i) ⟨[], fillH_start hD, Nat.le_refl _⟩ (fun i H1 _ ⟨ys, fl, _⟩ => fl.1.1.seq hx)
    (fun i x H1 hi ⟨ys, fl, hy⟩ => ?_) (fun H1 ⟨ys, fl, hy⟩ => hd ys H1 fl.1.1 fl.1.2 hy fl.2)
  have hlt : i < xs.length := (List.getElem?_eq_some_iff.mp hi).1
  refine hs i x H1 hi fl.1.1 ⟨ys, fl.1.2⟩ _ _ (fun hp y H2 s2 ry => ⟨ys, fl.1.at s2, small1000 (by omega), ys ++ [y], ?_, by rw [List.length_append, List.length_singleton]; omega⟩) (fun hp H2 s2 => ⟨ys, ?_, by omega⟩)
  · rw [List.range_succ, List.filter_append, List.map_append]
    have e1 : ([i].filter p) = [i] := by simp [hp]
    rw [e1]
    exact fillH_push hD fl s2 ry
  · rw [List.range_succ, List.filter_append]
    have e1 : ([i].filter p) = [] := by simp [hp]
    rw [e1, List.append_nil]
    exact fillH_same fl s2
theorem lcTH {K : PySem.W.Frag} {a : Addr} {xs : List V} {g : TG} {tt : TT} {te : TE} {vs : List Nat} {σ : L2.St} {H : Hp} {D : Addr} {Qd : Hp → Prop} (p : Nat → Bool) (f : Nat → PyData) (hD : H D = none) (hx : SqT K H a xs) (hz : xs.length ≤ 1000)
    (hs : ∀ (i : Nat) (x : V) (H1 : Hp), xs[i]? = some x → Same H H1 → (∃ ys, H1 D = some (.lst ys)) → ∀ (Q : VK) (Q' : Hp → Prop), (p i = true → ∀ y H2, Same H1 H2 → Rp K (hide D H2) y (f i) → Q y H2) → (p i = false → ∀ H2, Same H1 H2 → Q' H2) →
      g x (wipe σ vs) H1 fun σ2 H2 => wipe σ2 vs = wipe σ vs ∧ tt σ2 H2 fun b H3 => if b = true then te σ2 H3 Q else Q' H3)
    (hd : ∀ ys H1, Same H H1 → H1 D = some (.lst ys) → ys.length ≤ xs.length → RpAll K (hide D H1) ys (((List.range xs.length).filter p).map f) → Qd H1) :
    ∃ W : Nat → Nat → Hp → Prop, (∃ m, W 0 m (upd H D (.lst []))) ∧ ∀ i m H, W i m H →
      ((Itt K a).stop i H ∧ Qd H) ∨ ((Itt K a).go i H ∧ ∃ Nx : Hp → Prop, (∀ H', Nx H' → ∃ m', m' < m ∧ W (i + 1) m' H') ∧ ∀ x H', (Itt K a).yld i H x H' → g x (wipe σ vs) H' fun σ2 H2 => wipe σ2 vs = wipe σ vs ∧ tt σ2 H2 fun b H3 =>
        if b = true then te σ2 H3 fun y H4 => ∃ acc, H4 D = some (.lst acc) ∧ acc.length < sizeLine ∧ Nx (upd H4 D (.lst (acc ++ [y]))) else Nx H3) := by
  refine lc_tup (fun i H1 => ∃ ys, FillH K H D H1 ys (((List.range i).filter p).map f) ∧ ys.length ≤ i) ⟨[], fillH_start hD, Nat.le_refl _⟩ (fun i H1 _ ⟨ys, fl, _⟩ => seqT fl.1.1 hx)
    (fun i x H1 hi ⟨ys, fl, hy⟩ => ?_) (fun H1 ⟨ys, fl, hy⟩ => hd ys H1 fl.1.1 fl.1.2 hy fl.2)
  have hlt : i < xs.length := (List.getElem?_eq_some_iff.mp hi).1
  refine hs i x H1 hi fl.1.1 ⟨ys, fl.1.2⟩ _ _ (fun hp y H2 s2 ry => ⟨ys, fl.1.at s2, small1000 (by omega), ys ++ [y], ?_, by rw [List.length_append, List.length_singleton]; omega⟩) (fun hp H2 s2 => ⟨ys, ?_, by omega⟩)
  · rw [List.range_succ, List.filter_append, List.map_append]
    have e1 : ([i].filter p) = [i] := by simp [hp]
    rw [e1]
    exact fillH_push hD fl s2 ry
  · rw [List.range_succ, List.filter_append]
    have e1 : ([i].filter p) = [] := by simp [hp]
    rw [e1, List.append_nil]
    exact fillH_same fl s2
theorem lcRH {K : PySem.W.Frag} {lo : Int} {n : Nat} {g : TG} {tt : TT} {te : TE} {vs : List Nat} {σ : L2.St} {H : Hp} {D : Addr} {Qd : Hp → Prop} (p : Nat → Bool) (f : Nat → PyData) (hD : H D = none) (hz : n ≤ 1000)
    (hs : ∀ (i : Nat)  (H1 : Hp), i < n → Same H H1 → (∃ ys, H1 D = some (.lst ys)) → ∀ (Q : VK) (Q' : Hp → Prop), (p i = true → ∀ y H2, Same H1 H2 → Rp K (hide D H2) y (f i) → Q y H2) → (p i = false → ∀ H2, Same H1 H2 → Q' H2) →
      g (.int (lo + i)) (wipe σ vs) H1 fun σ2 H2 => wipe σ2 vs = wipe σ vs ∧ tt σ2 H2 fun b H3 => if b = true then te σ2 H3 Q else Q' H3)
    (hd : ∀ ys H1, Same H H1 → H1 D = some (.lst ys) → ys.length ≤ n → RpAll K (hide D H1) ys (((List.range n).filter p).map f) → Qd H1) :
    ∃ W : Nat → Nat → Hp → Prop, (∃ m, W 0 m (upd H D (.lst []))) ∧ ∀ i m H, W i m H →
      ((Itr lo n).stop i H ∧ Qd H) ∨ ((Itr lo n).go i H ∧ ∃ Nx : Hp → Prop, (∀ H', Nx H' → ∃ m', m' < m ∧ W (i + 1) m' H') ∧ ∀ x H', (Itr lo n).yld i H x H' → g x (wipe σ vs) H' fun σ2 H2 => wipe σ2 vs = wipe σ vs ∧ tt σ2 H2 fun b H3 =>
        if b = true then te σ2 H3 fun y H4 => ∃ acc, H4 D = some (.lst acc) ∧ acc.length < sizeLine ∧ Nx (upd H4 D (.lst (acc ++ [y]))) else Nx H3) := by
  refine lc_range (fun i H1 => ∃ ys, FillH K H D H1 ys (((List.range i).filter p).map f) ∧ ys.length ≤ i) ⟨[], fillH_start hD, Nat.le_refl _⟩ 
    (fun i  H1 hi ⟨ys, fl, hy⟩ => ?_) (fun H1 ⟨ys, fl, hy⟩ => hd ys H1 fl.1.1 fl.1.2 hy fl.2)
  have hlt : i < n := hi
  refine hs i  H1 hi fl.1.1 ⟨ys, fl.1.2⟩ _ _ (fun hp y H2 s2 ry => ⟨ys, fl.1.at s2, small1000 (by omega), ys ++ [y], ?_, by rw [List.length_append, List.length_singleton]; omega⟩) (fun hp H2 s2 => ⟨ys, ?_, by omega⟩)
  · rw [List.range_succ, List.filter_append, List.map_append]
    have e1 : ([i].filter p) = [i] := by simp [hp]
    rw [e1]
    exact fillH_push hD fl s2 ry
  · rw [List.range_succ, List.filter_append]
    have e1 : ([i].filter p) = [] := by simp [hp]
    rw [e1, List.append_nil]
    exact fillH_same fl s2
/-- elements that stood ahead -/
theorem lcLV {K : PySem.W.Frag} {a : Addr} {xs : List V} {g : TG} {tt : TT} {te : TE} {vs : List Nat} {σ : L2.St} {H : Hp} {D : Addr} {Qd : Hp → Prop} (p : Nat → Bool) (f : Nat → V) (hD : H D = none) (hx : SqL K H a xs) (hz : xs.length ≤ 1000)
    (hs : ∀ (i : Nat) (x : V) (H1 : Hp), xs[i]? = some x → Same H H1 → ∀ (Q : VK) (Q' : Hp → Prop), (p i = true → ∀ H2, Same H1 H2 → Q (f i) H2) → (p i = false → ∀ H2, Same H1 H2 → Q' H2) →
      g x (wipe σ vs) H1 fun σ2 H2 => wipe σ2 vs = wipe σ vs ∧ tt σ2 H2 fun b H3 => if b = true then te σ2 H3 Q else Q' H3)
    (hd : ∀ H1, Same H H1 → H1 D = some (.lst (((List.range xs.length).filter p).map f)) → Qd H1) :
    ∃ W : Nat → Nat → Hp → Prop, (∃ m, W 0 m (upd H D (.lst []))) ∧ ∀ i m H, W i m H →
      ((Itl K a).stop i H ∧ Qd H) ∨ ((Itl K a).go i H ∧ ∃ Nx : Hp → Prop, (∀ H', Nx H' → ∃ m', m' < m ∧ W (i + 1) m' H') ∧ ∀ x H', (Itl K a).yld i H x H' → g x (wipe σ vs) H' fun σ2 H2 => wipe σ2 vs = wipe σ vs ∧ tt σ2 H2 fun b H3 =>
        if b = true then te σ2 H3 fun y H4 => ∃ acc, H4 D = some (.lst acc) ∧ acc.length < sizeLine ∧ Nx (upd H4 D (.lst (acc ++ [y]))) else Nx H3) := by
  refine lc_list (fun i H1 => Fill H D H1 (((List.range i).filter p).map f)) (Fill.start hD) (fun i H1 _ fl => fl.1.seq hx)
    (fun i x H1 hi fl => ?_) (fun H1 fl => hd H1 fl.1 fl.2)
  have hlt : i < xs.length := (List.getElem?_eq_some_iff.mp hi).1
  have hle : (((List.range i).filter p).map f).length ≤ i := by
    rw [List.length_map]
    exact Nat.le_trans (List.length_filter_le _ _) (by rw [List.length_range]; exact Nat.le_refl _)
  refine hs i x H1 hi fl.1 _ _ (fun hp H2 s2 => ⟨_, fl.at s2, small1000 (by omega), ?_⟩) (fun hp H2 s2 => ?_)
  · rw [List.range_succ, List.filter_append, List.map_append]
    have e1 : ([i].filter p) = [i] := by simp [hp]
    rw [e1]
    exact fl.push hD s2
  · rw [List.range_succ, List.filter_append]
    have e1 : ([i].filter p) = [] := by simp [hp]
    rw [e1, List.append_nil]
    exact ⟨fl.1.trans s2, s2 _ _ fl.2⟩
/-- what is chosen from data is data -/
theorem RpAll.pick {K : PySem.W.Frag} {H : Hp} {xs : List V} {ds : List PyData} (r : RpAll K H xs ds) (p : Nat → Bool) : ∀ (l : List Nat), (∀ j ∈ l, j < xs.length) → RpAll K H (l.map fun j => xs.getD j .non) (l.map fun j => ds.getD j .none)
  | [], _ => .nil
  | j :: l, h => by
    have hj := h j (by simp)
    obtain ⟨d, hd, rd⟩ := r.get (List.getElem?_eq_getElem hj)
    refine .cons ?_ (RpAll.pick r p l fun i hi => h i (by simp [hi]))
    show Rp K H (xs.getD j .non) (ds.getD j .none)
    rw [List.getD_eq_getElem?_getD, List.getD_eq_getElem?_getD, List.getElem?_eq_getElem hj, hd]
    exact rd
end LK
/-! comprehensions whose elements may hold lists, while the state at S is hidden -/
namespace LK
open PySem PySem.Spec PyProof.Rows L2
theorem hide2_self {S D : Addr} {H : Hp} {o : HO} : hide D (hide S (upd H D o)) = hide D (hide S H) := by
  by_cases e : D = S
  · subst e
    rw [hide_upd_self]
  · rw [hide_upd e, hide_upd_self]
/-- at D the values so far, all else stands -/
def FillS (K : PySem.W.Frag) (S : Addr) (H : Hp) (D : Addr) (H' : Hp) (xs : List V) (ds : List PyData) : Prop := Fill H D H' xs ∧ RpAll K (hide D (hide S H')) xs ds
theorem fillS_start {K : PySem.W.Frag} {S : Addr} {H : Hp} {D : Addr} (n : H D = none) : FillS K S H D (upd H D (.lst [])) [] [] := ⟨Fill.start n, .nil⟩
theorem fillS_push {K : PySem.W.Frag} {S : Addr} {H H1 H2 : Hp} {D : Addr} {xs : List V} {ds : List PyData} {y : V} {d : PyData} (n : H D = none) (f : FillS K S H D H1 xs ds) (s : Same H1 H2) (r : Rp K (hide D (hide S H2)) y d) : FillS K S H D (upd H2 D (.lst (xs ++ [y]))) (xs ++ [y]) (ds ++ [d]) :=
  ⟨f.1.push n s, by rw [hide2_self]; exact (f.2.same (hide_mono (hide_mono s))).app (.cons r .nil)⟩
theorem fillS_same {K : PySem.W.Frag} {S : Addr} {H H1 H2 : Hp} {D : Addr} {xs : List V} {ds : List PyData} (f : FillS K S H D H1 xs ds) (s : Same H1 H2) : FillS K S H D H2 xs ds := ⟨⟨f.1.1.trans s, s _ _ f.1.2⟩, f.2.same (hide_mono (hide_mono s))⟩
theorem lcLS {K : PySem.W.Frag} (S : Addr) {a : Addr} {xs : List V} {g : TG} {tt : TT} {te : TE} {vs : List Nat} {σ : L2.St} {H : Hp} {D : Addr} {Qd : Hp → Prop} (p : Nat → Bool) (f : Nat → PyData) (hD : H D = none) (hx : SqL K H a xs) (hz : xs.length ≤ 1000)
    (hs : ∀ (i : Nat) (x : V) (H1 : Hp), xs[i]? = some x → Same H H1 → (∃ ys, H1 D = some (.lst ys)) → ∀ (Q : VK) (Q' : Hp → Prop), (p i = true → ∀ y H2, Same H1 H2 → Rp K (hide D (hide S H2)) y (f i) → Q y H2) → (p i = false → ∀ H2, Same H1 H2 → Q' H2) →
      g x (wipe σ vs) H1 fun σ2 H2 => wipe σ2 vs = wipe σ vs ∧ tt σ2 H2 fun b H3 => if b = true then te σ2 H3 Q else Q' H3)
    (hd : ∀ ys H1, Same H H1 → H1 D = some (.lst ys) → ys.length ≤ xs.length → RpAll K (hide D (hide S H1)) ys (((List.range xs.length).filter p).map f) → Qd H1) :
    ∃ W : Nat → Nat → Hp → Prop, (∃ m, W 0 m (upd H D (.lst []))) ∧ ∀ i m H, W i m H →
      ((Itl K a).stop i H ∧ Qd H) ∨ ((Itl K a).go i H ∧ ∃ Nx : Hp → Prop, (∀ H', Nx H' → ∃ m', m' < m ∧ W (i + 1) m' H') ∧ ∀ x H', (Itl K a).yld i H x H' → g x (wipe σ vs) H' fun σ2 H2 => wipe σ2 vs = wipe σ vs ∧ tt σ2 H2 fun b H3 =>
        if b = true then te σ2 H3 fun y H4 => ∃ acc, H4 D = some (.lst acc) ∧ acc.length < sizeLine ∧ Nx (upd H4 D (.lst (acc ++ [y]))) else Nx H3) := by
  refine lc_list (fun i H1 => ∃ ys, FillS K S H D H1 ys (((List.range i).filter p).map f) ∧ ys.length ≤ i) ⟨[], fillS_start hD, Nat.le_refl _⟩ (fun i H1 _ ⟨ys, fl, _⟩ => fl.1.1.seq hx)
    (fun i x H1 hi ⟨ys, fl, hy⟩ => ?_) (fun H1 ⟨ys, fl, hy⟩ => hd ys H1 fl.1.1 fl.1.2 hy fl.2)
  have hlt : i < xs.length := (List.getElem?_eq_some_iff.mp hi).1
  refine hs i x H1 hi fl.1.1 ⟨ys, fl.1.2⟩ _ _ (fun hp y H2 s2 ry => ⟨ys, fl.1.at s2, small1000 (by omega), ys ++ [y], ?_, by rw [List.length_append, List.length_singleton]; omega⟩) (fun hp H2 s2 => ⟨ys, ?_, by omega⟩)
  · rw [List.range_succ, List.filter_append, List.map_append]
    have e1 : ([i].filter p) = [i] := by simp [hp]
    rw [e1]
    exact fillS_push hD fl s2 ry
  · rw [List.range_succ, List.filter_append]
    have e1 : ([i].filter p) = [] := by simp [hp]
    rw [e1, List.append_nil]
    exact fillS_same fl s2
theorem lcTS {K : PySem.W.Frag} (S : Addr) {a : Addr} {xs : List V} {g : TG} {tt : TT} {te : TE} {vs : List Nat} {σ : L2.St} {H : Hp} {D : Addr} {Qd : Hp → Prop} (p : Nat → Bool) (f : Nat → PyData) (hD : H D = none) (hx : SqT K H a xs) (hz : xs.length ≤ 1000)
    (hs : ∀ (i : Nat) (x : V) (H1 : Hp), xs[i]? = some x → Same H H1 → (∃ ys, H1 D = some (.lst ys)) → ∀ (Q : VK) (Q' : Hp → Prop), (p i = true → ∀ y H2, Same H1 H2 → Rp K (hide D (hide S H2)) y (f i) → Q y H2) → (p i = false → ∀ H2, Same H1 H2 → Q' H2) →
      g x (wipe σ vs) H1 fun σ2 H2 => wipe σ2 vs = wipe σ vs ∧ tt σ2 H2 fun b H3 => if b = true then te σ2 H3 Q else Q' H3)
    (hd : ∀ ys H1, Same H H1 → H1 D = some (.lst ys) → ys.length ≤ xs.length → RpAll K (hide D (hide S H1)) ys (((List.range xs.length).filter p).map f) → Qd H1) :
    ∃ W : Nat → Nat → Hp → Prop, (∃ m, W 0 m (upd H D (.lst []))) ∧ ∀ i m H, W i m H →
      ((Itt K a).stop i H ∧ Qd H) ∨ ((Itt K a).go i H ∧ ∃ Nx : Hp → Prop, (∀ H', Nx H' → ∃ m', m' < m ∧ W (i + 1) m' H') ∧ ∀ x H', (Itt K a).yld i H x H' → g x (wipe σ vs) H' fun σ2 H2 => wipe σ2 vs = wipe σ vs ∧ tt σ2 H2 fun b H3 =>
        if b = true then te σ2 H3 fun y H4 => ∃ acc, H4 D = some (.lst acc) ∧ acc.length < sizeLine ∧ Nx (upd H4 D (.lst (acc ++ [y]))) else Nx H3) := by
  refine lc_tup (fun i H1 => ∃ ys, FillS K S H D H1 ys (((List.range i).filter p).map f) ∧ ys.length ≤ i) ⟨[], fillS_start hD, Nat.le_refl _⟩ (fun i H1 _ ⟨ys, fl, _⟩ => seqT fl.1.1 hx)
    (fun i x H1 hi ⟨ys, fl, hy⟩ => ?_) (fun H1 ⟨ys, fl, hy⟩ => hd ys H1 fl.1.1 fl.1.2 hy fl.2)
  have hlt : i < xs.length := (List.getElem?_eq_some_iff.mp hi).1
  refine hs i x H1 hi fl.1.1 ⟨ys, fl.1.2⟩ _ _ (fun hp y H2 s2 ry => ⟨ys, fl.1.at s2, small1000 (by omega), ys ++ [y], ?_, by rw [List.length_append, List.length_singleton]; omega⟩) (fun hp H2 s2 => ⟨ys, ?_, by omega⟩)
  · rw [List.range_succ, List.filter_append, List.map_append]
    have e1 : ([i].filter p) = [i] := by simp [hp]
    rw [e1]
    exact fillS_push hD fl s2 ry
  · rw [List.range_succ, List.filter_append]
    have e1 : ([i].filter p) = [] := by simp [hp]
    rw [e1, List.append_nil]
    exact fillS_same fl s2
theorem lcRS {K : PySem.W.Frag} (S : Addr) {lo : Int} {n : Nat} {g : TG} {tt : TT} {te : TE} {vs : List Nat} {σ : L2.St} {H : Hp} {D : Addr} {Qd : Hp → Prop} (p : Nat → Bool) (f : Nat → PyData) (hD : H D = none) (hz : n ≤ 1000)
    (hs : ∀ (i : Nat)  (H1 : Hp), i < n → Same H H1 → (∃ ys, H1 D = some (.lst ys)) → ∀ (Q : VK) (Q' : Hp → Prop), (p i = true → ∀ y H2, Same H1 H2 → Rp K (hide D (hide S H2)) y (f i) → Q y H2) → (p i = false → ∀ H2, Same H1 H2 → Q' H2) →
      g (.int (lo + i)) (wipe σ vs) H1 fun σ2 H2 => wipe σ2 vs = wipe σ vs ∧ tt σ2 H2 fun b H3 => if b = true then te σ2 H3 Q else Q' H3)
    (hd : ∀ ys H1, Same H H1 → H1 D = some (.lst ys) → ys.length ≤ n → RpAll K (hide D (hide S H1)) ys (((List.range n).filter p).map f) → Qd H1) :
    ∃ W : Nat → Nat → Hp → Prop, (∃ m, W 0 m (upd H D (.lst []))) ∧ ∀ i m H, W i m H →
      ((Itr lo n).stop i H ∧ Qd H) ∨ ((Itr lo n).go i H ∧ ∃ Nx : Hp → Prop, (∀ H', Nx H' → ∃ m', m' < m ∧ W (i + 1) m' H') ∧ ∀ x H', (Itr lo n).yld i H x H' → g x (wipe σ vs) H' fun σ2 H2 => wipe σ2 vs = wipe σ vs ∧ tt σ2 H2 fun b H3 =>
        if b = true then te σ2 H3 fun y H4 => ∃ acc, H4 D = some (.lst acc) ∧ acc.length < sizeLine ∧ Nx (upd H4 D (.lst (acc ++ [y]))) else Nx H3) := by
  refine lc_range (fun i H1 => ∃ ys, FillS K S H D H1 ys (((List.range i).filter p).map f) ∧ ys.length ≤ i) ⟨[], fillS_start hD, Nat.le_refl _⟩ 
    (fun i  H1 hi ⟨ys, fl, hy⟩ => ?_) (fun H1 ⟨ys, fl, hy⟩ => hd ys H1 fl.1.1 fl.1.2 hy fl.2)
  have hlt : i < n := hi
  refine hs i  H1 hi fl.1.1 ⟨ys, fl.1.2⟩ _ _ (fun hp y H2 s2 ry => ⟨ys, fl.1.at s2, small1000 (by omega), ys ++ [y], ?_, by rw [List.length_append, List.length_singleton]; omega⟩) (fun hp H2 s2 => ⟨ys, ?_, by omega⟩)
  · rw [List.range_succ, List.filter_append, List.map_append]
    have e1 : ([i].filter p) = [i] := by simp [hp]
    rw [e1]
    exact fillS_push hD fl s2 ry
  · rw [List.range_succ, List.filter_append]
    have e1 : ([i].filter p) = [] := by simp [hp]
    rw [e1, List.append_nil]
    exact fillS_same fl s2
end LK
namespace LK
open PySem PySem.Spec PyProof.Rows L2
def tTru (K : PySem.W.Frag) (ta : TE) : TT := fun σ H Q => ta σ H fun x H' => ∃ k, TruV K x H' k ∧ Q k H'
/-- the truth of a value, the written part named -/
theorem ptTru {X : Cx} (K : PySem.W.Frag) {a : Expr} {ta : TE} (ha : PE X a ta) (he : ∀ whole, isTrue a X.env whole = (do let v ← whole; standAt a.pos; holding [v] (truthy v))) (h : X.K = K := by rfl) : PT X a (tTru K ta) := h ▸ pt_truth ha he
/-! ### any of a list of ints -/
theorem ints_get : ∀ {its : List Value} {bs : List Int} {i : Nat} {v : Value}, PyProof.Rows.IntsAre its bs → its[i]? = some v → ∃ n t, bs[i]? = some n ∧ v = .int n t
  | _, _, i, v, .nil, h => by simp at h
  | _, _, 0, v, .cons n t r, h => ⟨n, t, rfl, by simpa using h.symm⟩
  | _, _, i + 1, v, .cons n t r, h => by
    obtain ⟨m, u, h1, h2⟩ := ints_get (i := i) r (by simpa using h)
    exact ⟨m, u, by simpa using h1, h2⟩
theorem ints_len : ∀ {its : List Value} {bs : List Int}, PyProof.Rows.IntsAre its bs → its.length = bs.length
  | _, _, .nil => rfl
  | _, _, .cons n t r => by rw [List.length_cons, List.length_cons, ints_len r]
theorem ints_true {prog : Program} {w : World} {A : Around} {ns : List Int} {vals : List Value} (are : PyProof.Rows.IntsAre vals ns) : TruthOf prog w A (fun i v => vals.toArray[i]? = some v) (fun i => ns.getD i 0 != 0) := by
  intro i v s Q E there q
  obtain ⟨n, t, hn, rfl⟩ := ints_get (i := i) (v := v) are (by simpa using there)
  have hd : ns.getD i 0 = n := by
    rw [List.getD_eq_getElem?_getD, hn]
    rfl
  refine truthy_int ?_
  rw [← hd]
  exact q
theorem any_at : ∀ ns : List Int, (List.range ns.length).any (fun i => ns.getD i 0 != 0) = ns.any (fun b => b != 0)
  | [] => rfl
  | n :: ns => by
    have ih := any_at ns
    show (List.range (ns.length + 1)).any (fun i => (n :: ns).getD i 0 != 0) = (n != 0 || ns.any fun b => b != 0)
    rw [← ih, List.range_succ_eq_map, List.any_cons, List.any_map]
    rfl
def rAnyI (K : PySem.W.Frag) : List V → Hp → VK → Prop := fun vs H Q => ∃ (l : Addr) (ns : List Int), vs = [V.ref l] ∧ SqL K H l (ns.map V.int) ∧ Q (.bl (ns.any (fun b => b != 0))) H
theorem anyI {X : Cx} (K : PySem.W.Frag) (calm : X.calm = true := by rfl) (hk : X.K = K := by rfl) : CallR X (.builtin "any") (rAnyI K) := by
  subst hk
  intro pn st σ H given args Q inv rel way
  obtain ⟨l, ns, rfl, seq, q⟩ := way
  obtain ⟨vals, held, plain, _⟩ := inv.list seq
  have are := held.ints
  rw [Vals.ref1 rel]
  refine call_any_walk (iter_any plain.isList fun s2 es state unlike => ?_)
  subst es
  refine ⟨_, _, _, _, _, _, _, rfl, Walks.list (A := X.A.in1) (inv.ok.hd calm) _ l unlike vals.toArray, state, ints_true are, fun h2 tk keeps => ⟨.bl _, H, ?_, ?_, q⟩⟩
  · refine inv.kept fun b o eo => keeps b o (fun isNew => ?_) (Heap.get?_push_of_some _ eo)
    rcases List.mem_cons.mp isNew with e | isNew
    · exact Nat.lt_irrefl _ (e ▸ Heap.lt_size eo)
    · cases isNew
  · show Value.bool _ = .bool _
    rw [← any_at, List.size_toArray, ints_len are]
theorem ltT {X : Cx} (K : PySem.W.Frag) (hu : X.A.units < cLine) (hK : X.K = K := by rfl) : OpR X (compareOp .Lt) (rLtT K) := hK ▸ op_ltT hu
theorem hu0 {A : Around} {k : Nat} (hr : Room k A) : A.units < cLine := by have := hr.un; omega
theorem hu65 {A : Around} {k : Nat} (hr : Room k A) : A.units + 65 < cLine := by have := hr.un; omega
theorem atI_end {xs ys : List V} {v : V} (h : ys = xs ++ [v]) : atI ys (-1) = some v := by
  subst h
  unfold atI ixN
  rw [if_neg (by decide), if_pos (by rw [List.length_append]; show -(((xs.length + 1 : Nat)) : Int) ≤ -1; omega)]
  have e : ((-1 : Int) + ((xs ++ [v]).length : Nat)).toNat = xs.length := by
    rw [List.length_append]
    show ((-1 : Int) + ((xs.length + 1 : Nat) : Int)).toNat = xs.length
    omega
  rw [e]
  show (xs ++ [v])[xs.length]? = some v
  simp
theorem idx_first : ∀ {ws : List Nat} {x : Nat}, x ∈ ws → ∃ j, ws[j]? = some x ∧ ∀ (m y : Nat), m < j → ws[m]? = some y → y ≠ x
  | [], _, h => by cases h
  | a :: ws, x, h => by
    by_cases e : a = x
    · exact ⟨0, by rw [e]; rfl, fun m y hm => by omega⟩
    · obtain ⟨j, h1, h2⟩ := idx_first (ws := ws) (x := x) (by rcases List.mem_cons.mp h with z | z; exact absurd z.symm e; exact z)
      refine ⟨j + 1, by simpa using h1, fun m y hm hy => ?_⟩
      cases m with
      | zero => simp at hy; rw [← hy]; exact e
      | succ m => exact h2 m y (by omega) (by simpa using hy)
end LK
namespace LK
open PySem PySem.Spec PyProof.Rows L2
theorem canLay_ints : ∀ ns : List Int, PyData.canLayAll0 (ns.map PyData.int) = true
  | [] => rfl
  | n :: ns => by
    rw [List.map_cons]
    unfold PyData.canLayAll0
    rw [canLay_ints ns]
    rfl
theorem canLay_rows : ∀ T : List (List Int), PyData.canLayAll0 (T.map dTup) = true
  | [] => rfl
  | r :: T => by
    rw [List.map_cons]
    unfold PyData.canLayAll0
    rw [canLay_rows T]
    show (PyData.canLayAll0 (r.map PyData.int) && true) = true
    rw [canLay_ints r]
    rfl
theorem depth_ints : ∀ ns : List Int, PyData.depthAll (ns.map PyData.int) = 0
  | [] => rfl
  | n :: ns => by
    rw [List.map_cons]
    unfold PyData.depthAll
    rw [depth_ints ns]
    rfl
theorem depth_rows : ∀ T : List (List Int), PyData.depthAll (T.map dTup) ≤ 1
  | [] => Nat.zero_le _
  | r :: T => by
    rw [List.map_cons]
    unfold PyData.depthAll
    have h1 := depth_rows T
    have h2 : PyData.depth (dTup r) = 1 := by
      show PyData.depthAll (r.map PyData.int) + 1 = 1
      rw [depth_ints]
    rw [h2]
    omega
theorem shaped_row (r : List Int) : SeqAt.shaped (dTup r) = true := by
  have h2 : PyData.depth (dTup r) = 1 := by
    show PyData.depthAll (r.map PyData.int) + 1 = 1
    rw [depth_ints]
  have h1 : PyData.canLay0 (dTup r) = true := canLay_ints r
  unfold SeqAt.shaped
  rw [h1, h2]
  rfl
theorem shaped_rows (T : List (List Int)) : SeqAt.shaped (.tuple (T.map dTup)) = true := by
  have h1 : PyData.canLay0 (.tuple (T.map dTup)) = true := canLay_rows T
  have h2 : PyData.depth (.tuple (T.map dTup)) ≤ 64 := by
    show PyData.depthAll (T.map dTup) + 1 ≤ 64
    have := depth_rows T
    omega
  unfold SeqAt.shaped
  rw [h1, decide_eq_true h2]
  rfl
theorem eqv_ints : ∀ a b : List Int, PyData.eqvAll (a.map PyData.int) (b.map PyData.int) = decide (a = b)
  | [], [] => rfl
  | [], _ :: _ => rfl
  | _ :: _, [] => rfl
  | x :: a, y :: b => by
    rw [List.map_cons, List.map_cons]
    unfold PyData.eqvAll
    rw [eqv_ints a b]
    show ((x == y) && decide (a = b)) = decide (x :: a = y :: b)
    by_cases c : x = y
    · subst c
      simp
    · simp [c]
theorem dTup_inj {a b : List Int} (h : dTup a = dTup b) : a = b := by rw [← dInts_tup a, h, dInts_tup]
theorem mem_rows {T : List (List Int)} {r : List Int} : dTup r ∈ T.map dTup ↔ r ∈ T := by
  rw [List.mem_map]
  exact ⟨fun ⟨a, ha, e⟩ => by rw [← dTup_inj e]; exact ha, fun h => ⟨r, h, rfl⟩⟩
theorem any_rows (T : List (List Int)) (r : List Int) : ((T.map dTup).any fun z => PyData.eqv z (dTup r)) = true ↔ dTup r ∈ T.map dTup := by
  rw [List.any_eq_true, mem_rows]
  constructor
  · rintro ⟨z, hz, he⟩
    obtain ⟨a, ha, rfl⟩ := List.mem_map.mp hz
    have e2 : PyData.eqvAll (a.map PyData.int) (r.map PyData.int) = true := he
    rw [eqv_ints, decide_eq_true_iff] at e2
    subst e2
    exact ha
  · intro h
    refine ⟨dTup r, List.mem_map.mpr ⟨r, h, rfl⟩, ?_⟩
    show PyData.eqvAll (r.map PyData.int) (r.map PyData.int) = true
    rw [eqv_ints]
    simp

theorem any_rowsB (T : List (List Int)) (r : List Int) : ((T.map dTup).any fun z => PyData.eqv z (dTup r)) = decide (r ∈ T) := by
  have h := any_rows T r
  rw [mem_rows] at h
  by_cases c : r ∈ T
  · rw [decide_eq_true c]
    exact h.mpr c
  · rw [decide_eq_false c]
    cases e : ((T.map dTup).any fun z => PyData.eqv z (dTup r)) with
    | false => rfl
    | true => exact absurd (h.mp e) c
/-- a row in a tuple of rows -/
def rInR (K : PySem.W.Frag) (neg : Bool) : R2 := fun x y H Q => ∃ (r : List Int) (T : List (List Int)), Rp K H x (dTup r) ∧ Rp K H y (.tuple (T.map dTup)) ∧ Q (.bl (if neg then !decide (r ∈ T) else decide (r ∈ T))) H
theorem inR {X : Cx} (K : PySem.W.Frag) (hu : X.A.units + 65 < cLine) (hK : X.K = K := by rfl) : OpR X (compareOp .In) (rInR K false) := by
  subst hK
  intro pn st σ H one many v u Q inv h1 h2 way
  obtain ⟨r, T, hd, he, q⟩ := way
  obtain ⟨as, r1⟩ := Dp.reads inv _ one v hd.dp h1
  obtain ⟨bs, r2⟩ := Dp.reads inv _ many u he.dp h2
  refine SeqAt.in_tuple_reads r2 r1 (SeqAt.canLay_of_shaped (shaped_rows T)) (SeqAt.canLay_of_shaped (shaped_row r)) (room_in_shaped (shaped_row r) hu) ⟨.bl _, H, inv, rfl, ?_⟩
  rw [any_rowsB]
  exact q
theorem notInR {X : Cx} (K : PySem.W.Frag) (hu : X.A.units + 65 < cLine) (hK : X.K = K := by rfl) : OpR X (compareOp .NotIn) (rInR K true) := by
  subst hK
  intro pn st σ H one many v u Q inv h1 h2 way
  obtain ⟨r, T, hd, he, q⟩ := way
  obtain ⟨as, r1⟩ := Dp.reads inv _ one v hd.dp h1
  obtain ⟨bs, r2⟩ := Dp.reads inv _ many u he.dp h2
  refine SeqAt.notIn_tuple_reads r2 r1 (SeqAt.canLay_of_shaped (shaped_rows T)) (SeqAt.canLay_of_shaped (shaped_row r)) (room_in_shaped (shaped_row r) hu) ⟨.bl _, H, inv, rfl, ?_⟩
  rw [any_rowsB]
  exact q
end LK
/-! sorted of a list of tuples of ints, of any lengths -/
namespace LK
open PySem PySem.Spec PyProof.Rows L2
def srtRows (T : List (List Int)) : List (List Int) := T.mergeSort fun a b => decide (a ≤ b)
theorem dataLe_tups {β : Type} (x : β → List Int) : PySem.W.dataLe false (fun b => dTup (x b)) = fun p q => decide (x p ≤ x q) := by
  funext p q
  show (!PySem.W.dataLt (.tuple ((x q).map .int)) (.tuple ((x p).map .int))) = _
  rw [PySem.W.dataLt_tuple]
  show (!PySem.W.rowLt ((x q).map .int) ((x p).map .int)) = _
  rw [PySem.W.dataLt_ints]
  by_cases c : x q < x p
  · rw [decide_eq_true c, decide_eq_false fun r => List.not_lt.mpr r c]
    rfl
  · rw [decide_eq_false c, decide_eq_true (List.not_lt.mp c)]
    rfl
theorem alike_ints : ∀ a b : List Int, PySem.W.alikeAll (a.map PyData.int) (b.map PyData.int) = true
  | [], [] => by simp [PySem.W.alikeAll]
  | [], _ :: _ => by simp [PySem.W.alikeAll]
  | _ :: _, [] => by simp [PySem.W.alikeAll]
  | x :: a, y :: b => by simp [PySem.W.alikeAll, PySem.W.alike, alike_ints a b]
theorem alike_tups (a b : List Int) : PySem.W.alike (dTup a) (dTup b) = true := by
  show PySem.W.alike (.tuple _) (.tuple _) = true
  simp [PySem.W.alike, alike_ints a b]
theorem zipped {K : PySem.W.Frag} {H : Hp} : ∀ {T : List (List Int)} {xs : List V}, RpAll K H xs (T.map dTup) → ∃ bs : List (V × List Int), bs.map (·.1) = xs ∧ bs.map (·.2) = T ∧ ∀ b ∈ bs, Rp K H b.1 (dTup b.2)
  | [], _, h => by cases h; exact ⟨[], rfl, rfl, fun b hb => by cases hb⟩
  | t :: T, _, h => by
    cases h with
    | cons a r =>
      obtain ⟨bs, e1, e2, hb⟩ := zipped r
      refine ⟨(_, t) :: bs, by rw [List.map_cons, e1], by rw [List.map_cons, e2], fun b m => ?_⟩
      rcases List.mem_cons.mp m with z | z
      · rw [z]; exact a
      · exact hb b z
theorem rp_zip {K : PySem.W.Frag} {H : Hp} : ∀ {bs : List (V × List Int)}, (∀ b ∈ bs, Rp K H b.1 (dTup b.2)) → RpAll K H (bs.map (·.1)) ((bs.map (·.2)).map dTup)
  | [], _ => .nil
  | b :: bs, h => .cons (h b List.mem_cons_self) (rp_zip fun c hc => h c (List.mem_cons_of_mem _ hc))
theorem vals_each : ∀ {bs : List (V × List Int)} {us : List Value}, Vals (bs.map (·.1)) us → PySem.W.EachIs (fun v (b : V × List Int) => RelV b.1 v) us bs
  | [], _, h => by cases h; exact .nil
  | b :: bs, _, h => by
    cases h with
    | cons a r => exact .cons a (vals_each r)
theorem each_vals : ∀ {bs : List (V × List Int)} {us : List Value}, PySem.W.EachIs (fun v (b : V × List Int) => RelV b.1 v) us bs → Vals (bs.map (·.1)) us
  | _, _, .nil => .nil
  | _, _, .cons a r => .cons a (each_vals r)
theorem each_reads {X : Cx} {pins : List (Addr × Obj)} {σ : L2.St} {H : Hp} {s : Shared} (I : Inv X pins σ H s) : ∀ {bs : List (V × List Int)} {us : List Value}, PySem.W.EachIs (fun v (b : V × List Int) => RelV b.1 v) us bs → (∀ b ∈ bs, Rp X.K H b.1 (dTup b.2)) →
    PySem.W.EachIs (fun v (b : V × List Int) => ∃ as, Reads s.heap v (dTup b.2) as) us bs
  | _, _, .nil, _ => .nil
  | _, _, .cons a r, h => .cons (Dp.reads I _ _ _ (h _ List.mem_cons_self).dp a) (each_reads I r fun c hc => h c (List.mem_cons_of_mem _ hc))
theorem depth_tup (r : List Int) : (dTup r).depth ≤ 1 := by
  have := depth_ints r
  show PyData.depth (.tuple _) ≤ 1
  rw [PyData.depth]
  omega
def rSrtL (K : PySem.W.Frag) : List V → Hp → VK → Prop := fun vs H Q => ∃ (a : Addr) (xs : List V) (T : List (List Int)), vs = [V.ref a] ∧ SqL K H a xs ∧ RpAll K H xs (T.map dTup) ∧ (∀ r ∈ T, r ≠ []) ∧
  ∀ (ys : List V) (p : Addr), ys.length = xs.length → RpAll K H ys ((srtRows T).map dTup) → H p = none → Q (.ref p) (upd H p (.lst ys))
theorem srtL {X : Cx} (K : PySem.W.Frag) (hu : X.A.units + 65 < cLine) (hK : X.K = K := by rfl) : CallR X (.builtin "sorted") (rSrtL K) := by
  subst hK
  intro pins s σ H vs us Q I r h
  obtain ⟨a, xs, T, rfl, hs, hx, hne, q⟩ := h
  obtain ⟨its, rv, hl, hz⟩ := I.list hs
  rw [Vals.ref1 r]
  obtain ⟨bs, e1, e2, hb⟩ := zipped hx
  subst e1
  have each := vals_each rv
  have lb : bs.length = its.length := by
    have := rv.length
    rw [List.length_map] at this
    exact this
  refine PySem.W.sorted_data (R := fun v (b : V × List Int) => RelV b.1 v) (enc := fun b => dTup b.2) hl.isList each (each_reads I each hb) (PySem.W.AllAlike.of fun b b' => alike_tups _ _) (.inl fun d hd => ?_) (by rw [List.length_map] at hz; exact hz) (fun b m => ?_) fun out h1 h2 => ?_
  · obtain ⟨b, m, rfl⟩ := List.mem_map.mp hd
    have := hne b.2 (by rw [← e2]; exact List.mem_map.mpr ⟨b, m, rfl⟩)
    cases e : b.2 with
    | nil => exact absurd e this
    | cons x rs => exact ⟨.int x, rs.map .int, rfl⟩
  · have := depth_tup b.2
    show X.A.units + 2 + (dTup b.2).depth < cLine
    omega
  · obtain ⟨ep, he⟩ := PyProof.Rows.sortedAll_at s.heap its out.toArray
    have p := List.mergeSort_perm bs (PySem.W.dataLe false fun b => dTup b.2)
    have ev := each_vals h2
    have hb2 : ∀ b ∈ bs.mergeSort (PySem.W.dataLe false fun b => dTup b.2), Rp X.K H b.1 (dTup b.2) := fun b m => hb b (p.mem_iff.mp m)
    have es : (bs.mergeSort (PySem.W.dataLe false fun b => dTup b.2)).map (·.2) = srtRows T := by
      rw [← e2]
      refine PySem.W.sort_maps (fun b : V × List Int => b.2) fun a ha b hb => ?_
      rw [dataLe_tups (fun b : V × List Int => b.2)]
    have rr := rp_zip hb2
    rw [es] at rr
    have hlen : ((bs.mergeSort (PySem.W.dataLe false fun b => dTup b.2)).map (·.1)).length = (bs.map (·.1)).length := by
      rw [List.length_map, List.length_map, p.length_eq]
    generalize (bs.mergeSort (PySem.W.dataLe false fun b => dTup b.2)).map (·.1) = ys at ev rr hlen
    refine ⟨.ref _, upd H (s.heap.objs.size + 1) (.lst ys), I.laid (t' := s.toks) (fun _ _ => PyProof.Rows.sortedAll_old) (Nat.le_succ _) ⟨by rw [hlen]; exact hz, out, ep, ev, he⟩, rfl, q _ _ hlen rr (I.hok.fresh (Nat.le_succ _))⟩
end LK
/-! sorted of a tuple of tuples of ints -/
namespace LK
open PySem PySem.Spec PyProof.Rows L2
section
variable {prog : Program} {w : World} {A : Around} {E : Value → Shared → Prop} {s : Shared} {κ : KeyKind}
theorem sorted_valsT {l : Addr} {vs : List Value} {Q : Value → Shared → Prop} (hl : s.heap.IsTuple l vs.toArray) (S : PySem.W.SortsAt prog w A.in1.in1 { s with heap := PySem.W.sortingHeap (PySem.W.copyHeap s.heap vs) (s.heap.objs.size + 1) vs } κ vs) (hL : vs.length ≤ sizeLine)
    (h : Q (.ref (s.heap.objs.size + 1)) { s with heap := sortedAll s.heap vs (PySem.W.sortVals κ false vs vs).toArray }) : wpAny (model prog w) A (call (.builtin "sorted") [.ref l]) Q E s := by
  refine Calls.call_function_entry kind_sorted plain_sorted entry_sorted (args_sorted1 _) ?_
  unfold Builtin.«sorted»
  refine wpAny_bind (m := checkCount "sorted" 1 1 _) (wpAny_pure ?_)
  refine wpAny_bind (collect_tup hl ?_ hL)
  refine wpAny_bind (wpAny_newList ?_ hL)
  have hsz : ((s.heap.push (seqObj "list" #[] 0)).update s.heap.objs.size (Obj.mapSeq (· ++ vs.toArray))).objs.size = s.heap.objs.size + 1 := by
    rw [Heap.size_update, size_push']
  have hoL := PySem.W.copyHeap_at s.heap vs
  show wpAny _ _ _ _ _ { s with heap := PySem.W.copyHeap s.heap vs }
  rw [hsz]
  refine wpAny_bind (wpAny_holding (wpAny_call_entry slot_list_sort ⟨_, hoL, rfl⟩ entry_list_sort (PySem.W.list_sort_vals (s := { s with heap := PySem.W.copyHeap s.heap vs }) hoL S hL ⟨_, rfl, ?_⟩) (args_list_sort _)))
  exact wpAny_pure ⟨_, rfl, h⟩
end
def rSrtLT (K : PySem.W.Frag) : List V → Hp → VK → Prop := fun vs H Q => ∃ (a : Addr) (xs : List V) (T : List (List Int)), vs = [V.ref a] ∧ SqT K H a xs ∧ RpAll K H xs (T.map dTup) ∧ (∀ r ∈ T, r ≠ []) ∧
  ∀ (ys : List V) (p : Addr), ys.length = xs.length → RpAll K H ys ((srtRows T).map dTup) → H p = none → Q (.ref p) (upd H p (.lst ys))
theorem srtLT {X : Cx} (K : PySem.W.Frag) (hu : X.A.units + 65 < cLine) (hK : X.K = K := by rfl) : CallR X (.builtin "sorted") (rSrtLT K) := by
  subst hK
  intro pins s σ H vs us Q I r h
  obtain ⟨a, xs, T, rfl, hs, hx, hne, q⟩ := h
  obtain ⟨its, rv, hl, hz⟩ := I.tuple hs
  rw [Vals.ref1 r]
  obtain ⟨bs, e1, e2, hb⟩ := zipped hx
  subst e1
  have each := vals_each rv
  have lb : bs.length = its.length := by
    have := rv.length
    rw [List.length_map] at this
    exact this
  have er := each_reads I each hb
  have er' : PySem.W.EachIs (fun v (b : V × List Int) => ∃ as, Reads (PySem.W.sortingHeap (PySem.W.copyHeap s.heap its) (s.heap.objs.size + 1) its) v (dTup b.2) as) its bs := er.mono fun _ _ ⟨as, r⟩ => ⟨as, PyProof.Rows.Reads.keeps (fun _ _ => PySem.W.sorting_copy_old) r⟩
  have hal : PySem.W.AllAlike (bs.map fun b => dTup b.2) := PySem.W.AllAlike.of fun b b' => alike_tups _ _
  have hk : PySem.W.Sortable (bs.map fun b => dTup b.2) := .inl fun d hd => by
    obtain ⟨b, m, rfl⟩ := List.mem_map.mp hd
    have := hne b.2 (by rw [← e2]; exact List.mem_map.mpr ⟨b, m, rfl⟩)
    cases e : b.2 with
    | nil => exact absurd e this
    | cons x rs => exact ⟨.int x, rs.map .int, rfl⟩
  have hbd : ∀ b, b ∈ bs → X.A.units + 2 + (dTup b.2).depth < cLine := fun b m => by
    have := depth_tup b.2
    omega
  refine sorted_valsT hl (PySem.W.SortsAt.data (s := { s with heap := PySem.W.sortingHeap (PySem.W.copyHeap s.heap its) (s.heap.objs.size + 1) its }) (PySem.W.each_map (R := fun v d => ∃ as, Reads (PySem.W.sortingHeap (PySem.W.copyHeap s.heap its) (s.heap.objs.size + 1) its) v d as) (fun b : V × List Int => dTup b.2) er') hal hk (PySem.W.bound_map hbd)) (by rw [← lb]; rw [List.length_map] at hz; exact hz) ?_
  have h2 := PySem.W.sortVals_data false each er' hal
  obtain ⟨ep, he⟩ := PyProof.Rows.sortedAll_at s.heap its (PySem.W.sortVals (PySem.W.dataKind (PySem.W.sortingHeap (PySem.W.copyHeap s.heap its) (s.heap.objs.size + 1) its) (bs.map fun b => dTup b.2)) false its its).toArray
  have p := List.mergeSort_perm bs (PySem.W.dataLe false fun b => dTup b.2)
  have ev := each_vals h2
  have hb2 : ∀ b ∈ bs.mergeSort (PySem.W.dataLe false fun b => dTup b.2), Rp X.K H b.1 (dTup b.2) := fun b m => hb b (p.mem_iff.mp m)
  have es : (bs.mergeSort (PySem.W.dataLe false fun b => dTup b.2)).map (·.2) = srtRows T := by
    rw [← e2]
    refine PySem.W.sort_maps (fun b : V × List Int => b.2) fun a ha b hb => ?_
    rw [dataLe_tups (fun b : V × List Int => b.2)]
  have rr := rp_zip hb2
  rw [es] at rr
  have hlen : ((bs.mergeSort (PySem.W.dataLe false fun b => dTup b.2)).map (·.1)).length = (bs.map (·.1)).length := by
    rw [List.length_map, List.length_map, p.length_eq]
  generalize (bs.mergeSort (PySem.W.dataLe false fun b => dTup b.2)).map (·.1) = ys at ev rr hlen
  exact ⟨.ref _, upd H (s.heap.objs.size + 1) (.lst ys), I.laid (t' := s.toks) (fun _ _ => PyProof.Rows.sortedAll_old) (Nat.le_succ _) ⟨by rw [hlen]; exact hz, _, ep, ev, he⟩, rfl, q _ _ hlen rr (I.hok.fresh (Nat.le_succ _))⟩
end LK
/-! sorted of a list of tuples of tuples of ints, the empty one among them or not: some sequence of the same -/
namespace LK
open PySem PySem.Spec PyProof.Rows L2
section
variable {prog : Program} {w : World} {A : Around} {E : Value → Shared → Prop} {s : Shared}
theorem oneLt_tup {xs ys : List PyData} {a b : Value} {as bs : List Addr} {Q : Bool → Shared → Prop} (ra : Reads s.heap a (.tuple xs) as) (rb : Reads s.heap b (.tuple ys) bs) (h : PySem.W.alike (.tuple xs) (.tuple ys) = true) (hu : A.units + min (PyData.tuple xs).depth (PyData.tuple ys).depth < cLine)
    (hq : Q (PySem.W.dataLt (.tuple xs) (.tuple ys)) s) : wpAny (model prog w) A (oneLt' true a b) Q E s := by
  have hal : PySem.W.alikeAll xs ys = true := by simpa [PySem.W.alike] using h
  cases ra with
  | @tuple l o vs n _ as₁ h1 h2 h3 h4 =>
    cases rb with
    | @tuple l' o' vs' n' _ bs₁ k1 k2 k3 k4 =>
      have n1 : vs.size = xs.length := by simpa using SeqAt.ReadsAll.length _ _ _ h4
      have n2 : vs'.size = ys.length := by simpa using SeqAt.ReadsAll.length _ _ _ k4
      rw [PySem.W.dataLt_tuple, ← PySem.W.firstLt_toks xs ys hal, ← n1, ← n2] at hq
      rw [oneLt'_eq]
      simp only [if_true]
      refine wpAny_bind (wpAny_cRoomFor (SeqAt.room_here hu) ?_)
      obtain ⟨cls, dd, data, sl⟩ := o
      obtain ⟨cls2, dd2, data2, sl2⟩ := o'
      simp only at h2 h3 k2 k3
      subst h2 h3 k2 k3
      refine wpAny_bind (wpAny_callSpecialIfBound?_slot (T := "tuple") ⟨_, h1, rfl⟩ PySem.F.slot_tuple_lt (call_meets PySem.F.slot_tuple_lt ⟨_, h1, rfl⟩ PySem.F.entry_tuple_lt (PySem.F.args_tuple_lt_2 _ _) (SeqAt.tuple_ltAt l l' vs vs' n n' dd dd2 sl sl2 (SeqAt.pairEq xs ys) (fun j => PySem.W.dataLt (xs.getD j .none) (ys.getD j .none))) ⟨h1, k1, (fun j j1 j2 => ?_), (fun j j1 j2 hj => ?_), ?_⟩))
      · have := PySem.W.eqAt_alikeAll xs ys A.in1 s vs.toList vs'.toList _ _ h4 k4 hal (SeqAt.room_in hu) j (by simpa using j1) (by simpa using j2)
        simpa using this
      · have := PySem.W.rcLt_alikeAll xs ys A.in1 s vs.toList vs'.toList _ _ h4 k4 hal (SeqAt.room_in hu) j (by simpa using j1) (by simpa using j2) hj
        simpa using this
      · exact wpAny_truthy_bool hq
theorem mapM_each {β : Type} {f : Value → Sem β} {R : Value → β → Prop} (hf : ∀ v r, R v r → ∀ Q' : β → Shared → Prop, Q' r s → wpAny (model prog w) A (f v) Q' E s) : ∀ {l : List Value} {rs : List β} {Q : List β → Shared → Prop}, PySem.W.EachIs R l rs → Q rs s → wpAny (model prog w) A (l.mapM f) Q E s
  | _, _, _, .nil, h => by rw [List.mapM_nil]; exact wpAny_pure h
  | _, _, Q, .cons (b := r) a t, h => by
    rw [List.mapM_cons]
    exact wpAny_bind (hf _ _ a _ (wpAny_bind (mapM_each hf t (Q := fun bs s' => wpAny (model prog w) A (pure (r :: bs)) Q E s') (wpAny_pure h))))
/-- the first item of the tuple v -/
def FirstIs (h : Heap) (v : Value) (f : Option Value) : Prop := ∃ a o xs n, v = .ref a ∧ h.get? a = some o ∧ o.cls = .type "tuple" ∧ o.data = .seq xs n ∧ xs[0]? = f
theorem first_walk {v : Value} {f : Option Value} (r : FirstIs s.heap v f) (Q' : Option Value → Shared → Prop) (h : Q' f s) : wpAny (model prog w) A (firstOfTuple' v) Q' E s := by
  obtain ⟨a, o, xs, n, rfl, ho, hc, hd, hf⟩ := r
  rw [PySem.W.kas_first_eq]
  refine wpAny_bind (PySem.W.Looks.here (show PySem.W.Looks (model prog w) s.heap (typeOf (.ref a)) o.cls from (PySem.W.Looks.ld ho).andThen .now) ?_)
  rw [hc, if_neg (by first | decide | simp)]
  refine wpAny_bind (PyProof.Rows.listItems_at ho hd (wpAny_pure ?_))
  rw [hf]
  exact h
def fullD : PyData → Bool
  | .tuple (_ :: _) => true
  | _ => false
theorem firsts_each {h : Heap} : ∀ {vs : List Value} {ds : List PyData}, PySem.W.EachIs (fun v d => ∃ as, Reads h v d as) vs ds → (∀ d, d ∈ ds → ∃ xs, d = .tuple xs) → ∃ fs : List (Option Value), PySem.W.EachIs (FirstIs h) vs fs ∧ fs.map Option.isSome = ds.map fullD
  | _, _, .nil, _ => ⟨[], .nil, rfl⟩
  | _, _, .cons (b := d) ⟨as, r⟩ t, ht => by
    obtain ⟨fs, h1, h2⟩ := firsts_each t fun d hd => ht d (List.mem_cons_of_mem _ hd)
    obtain ⟨xs, rfl⟩ := ht d (List.mem_cons_self ..)
    cases r with
    | @tuple a o vs n _ _ ho hc hd hr =>
      refine ⟨vs[0]? :: fs, .cons ⟨a, o, vs, n, rfl, ho, hc, hd, rfl⟩ h1, ?_⟩
      rw [List.map_cons, List.map_cons, h2]
      congr 1
      have l := SeqAt.ReadsAll.length _ _ _ hr
      cases xs with
      | nil =>
        have : vs.size = 0 := by simpa using l
        rw [Array.getElem?_eq_none (by omega)]
        rfl
      | cons x xs =>
        have : vs.size = xs.length + 1 := by simpa using l
        rw [Array.getElem?_eq_getElem (by omega)]
        rfl
theorem keyLt_general (x y : Value) : keyLt' general' x y = oneLt' false x y := rfl
/-- tuples that are alike can be sorted, the empty one among them or not -/
theorem sortsAt_tups {vs : List Value} {ds : List PyData} (e : PySem.W.EachIs (fun v d => ∃ as, Reads s.heap v d as) vs ds) (hal : PySem.W.AllAlike ds) (hk : ∀ d, d ∈ ds → ∃ xs, d = .tuple xs) (hu : ∀ d, d ∈ ds → A.units + d.depth < cLine) : PySem.W.SortsAt prog w A s (PySem.W.dataKind s.heap ds) vs := by
  by_cases full : ∀ d, d ∈ ds → ∃ x r, d = .tuple (x :: r)
  · exact PySem.W.SortsAt.data e hal (.inl full) hu
  have room : ∀ {d d' : PyData}, d ∈ ds → A.units + min d.depth d'.depth < cLine := fun {d d'} hd => Nat.lt_of_le_of_lt (Nat.add_le_add_left (Nat.min_le_left _ _) _) (hu d hd)
  refine ⟨fun v hv => ?_, ?_⟩
  · obtain ⟨d, hd, as, r⟩ := e.left v hv
    exact ⟨_, PySem.W.dataKind_some hal hd r⟩
  obtain ⟨fs, f1, f2⟩ := firsts_each e hk
  have notall : (fs.toArray.all fun x => x.isSome) = false := by
    rw [List.all_toArray]
    cases c : fs.all fun x => x.isSome with
    | false => rfl
    | true =>
      refine absurd (fun d hd => ?_) full
      have : fullD d = true := by
        have m : fullD d ∈ ds.map fullD := List.mem_map.mpr ⟨d, hd, rfl⟩
        rw [← f2] at m
        obtain ⟨g, hg, eg⟩ := List.mem_map.mp m
        rw [← eg]
        exact List.all_eq_true.mp c g hg
      obtain ⟨xs, rfl⟩ := hk d hd
      cases xs with
      | nil => cases this
      | cons x r => exact ⟨x, r, rfl⟩
  have kindIs : ∀ {kd : SortKind}, (kd = if (fs.toArray[0]?.bind id).isSome then general' else oneType') → 2 ≤ vs.length → ∀ (E : Value → Shared → Prop) {Q : SortKind → Shared → Prop}, Q kd s → wpAny (model prog w) A (keyKind' vs.toArray) Q E s := fun {kd} ek h2 E Q hq => by
    rw [keyKind'_eq, List.mapM_toArray, map_eq_pure_bind]
    refine wpAny_bind (wpAny_bind (mapM_each (R := FirstIs s.heap) (fun v r h Q' q => first_walk h Q' q) f1 (wpAny_pure ?_)))
    rw [if_neg (by rw [notall]; exact Bool.false_ne_true)]
    by_cases c : (fs.toArray[0]?.bind id).isSome = true
    · rw [if_pos c] at ek
      subst ek
      rw [if_pos c]
      exact wpAny_pure hq
    · rw [if_neg c] at ek
      subst ek
      rw [if_neg c, oneTypeOnly'_eq, List.mapM_toArray, map_eq_pure_bind]
      refine wpAny_bind (wpAny_bind (wpAny_bind (PySem.W.kas_mapM (r := Value.type "tuple") _ (fun v hv Q' hq => ?_) (wpAny_pure ?_))))
      · obtain ⟨d, hd, as, r⟩ := e.left v hv
        obtain ⟨xs, rfl⟩ := hk d hd
        exact (PySem.W.looks_reads r).here hq
      · obtain ⟨v1, v2, rest, rfl⟩ : ∃ v1 v2 rest, vs = v1 :: v2 :: rest := by
          match vs, h2 with
          | [], h2 => simp at h2
          | [_], h2 => simp at h2
          | v1 :: v2 :: rest, _ => exact ⟨v1, v2, rest, rfl⟩
        have hall : ((List.map (fun _ => Value.type "tuple") (v1 :: v2 :: rest)).toArray.all fun x => x == Value.type "tuple") = true := by
          simp only [List.all_toArray, List.all_map, List.all_eq_true]
          intro _ _
          rfl
        have h0 : (List.map (fun _ => Value.type "tuple") (v1 :: v2 :: rest)).toArray[0]? = some (Value.type "tuple") := by simp
        rw [h0]
        simp only [hall, if_true]
        exact wpAny_pure (wpAny_pure hq)
  refine ⟨if (fs.toArray[0]?.bind id).isSome then general' else oneType', ?_, fun h2 E Q hq => kindIs rfl h2 E hq⟩
  intro E x y a b Q ha hb hq
  obtain ⟨d, as, hd, ra, rfl⟩ := PySem.W.dataKind_inv ha
  obtain ⟨d', as', hd', rb, rfl⟩ := PySem.W.dataKind_inv hb
  obtain ⟨xs, rfl⟩ := hk d hd
  obtain ⟨ys, rfl⟩ := hk d' hd'
  by_cases c : (fs.toArray[0]?.bind id).isSome = true
  · rw [if_pos c, keyLt_general]
    exact PySem.W.oneLt_alike (fun z => by cases z) ra rb (hal _ hd _ hd') (by intro z; cases z) (room hd) hq
  · rw [if_neg c, keyLt'_oneType]
    exact oneLt_tup ra rb (hal _ hd _ hd') (room hd) hq
end
theorem zippedD {K : PySem.W.Frag} {H : Hp} {α : Type} {enc : α → PyData} : ∀ {T : List α} {xs : List V}, RpAll K H xs (T.map enc) → ∃ bs : List (V × α), bs.map (·.1) = xs ∧ bs.map (·.2) = T ∧ ∀ b ∈ bs, Rp K H b.1 (enc b.2)
  | [], _, h => by cases h; exact ⟨[], rfl, rfl, fun b hb => by cases hb⟩
  | t :: T, _, h => by
    cases h with
    | cons a r =>
      obtain ⟨bs, e1, e2, hb⟩ := zippedD r
      refine ⟨(_, t) :: bs, by rw [List.map_cons, e1], by rw [List.map_cons, e2], fun b m => ?_⟩
      rcases List.mem_cons.mp m with z | z
      · rw [z]; exact a
      · exact hb b z
theorem rp_zipD {K : PySem.W.Frag} {H : Hp} {α : Type} {enc : α → PyData} : ∀ {bs : List (V × α)}, (∀ b ∈ bs, Rp K H b.1 (enc b.2)) → RpAll K H (bs.map (·.1)) ((bs.map (·.2)).map enc)
  | [], _ => .nil
  | b :: bs, h => .cons (h b List.mem_cons_self) (rp_zipD fun c hc => h c (List.mem_cons_of_mem _ hc))
theorem vals_eachD {α : Type} : ∀ {bs : List (V × α)} {us : List Value}, Vals (bs.map (·.1)) us → PySem.W.EachIs (fun v (b : V × α) => RelV b.1 v) us bs
  | [], _, h => by cases h; exact .nil
  | b :: bs, _, h => by
    cases h with
    | cons a r => exact .cons a (vals_eachD r)
theorem each_valsD {α : Type} : ∀ {bs : List (V × α)} {us : List Value}, PySem.W.EachIs (fun v (b : V × α) => RelV b.1 v) us bs → Vals (bs.map (·.1)) us
  | _, _, .nil => .nil
  | _, _, .cons a r => .cons a (each_valsD r)
theorem each_readsD {X : Cx} {α : Type} {enc : α → PyData} {pins : List (Addr × Obj)} {σ : L2.St} {H : Hp} {s : Shared} (I : Inv X pins σ H s) : ∀ {bs : List (V × α)} {us : List Value}, PySem.W.EachIs (fun v (b : V × α) => RelV b.1 v) us bs → (∀ b ∈ bs, Rp X.K H b.1 (enc b.2)) →
    PySem.W.EachIs (fun v (b : V × α) => ∃ as, Reads s.heap v (enc b.2) as) us bs
  | _, _, .nil, _ => .nil
  | _, _, .cons a r, h => .cons (Dp.reads I _ _ _ (h _ List.mem_cons_self).dp a) (each_readsD I r fun c hc => h c (List.mem_cons_of_mem _ hc))
def dRws (T : List (List Int)) : PyData := .tuple (T.map dTup)
theorem alike_rowsAll : ∀ a b : List (List Int), PySem.W.alikeAll (a.map dTup) (b.map dTup) = true
  | [], [] => by simp [PySem.W.alikeAll]
  | [], _ :: _ => by simp [PySem.W.alikeAll]
  | _ :: _, [] => by simp [PySem.W.alikeAll]
  | x :: a, y :: b => by
    show PySem.W.alikeAll (dTup x :: a.map dTup) (dTup y :: b.map dTup) = true
    rw [PySem.W.alikeAll, alike_tups, alike_rowsAll a b]
    rfl
theorem alike_rows (a b : List (List Int)) : PySem.W.alike (dRws a) (dRws b) = true := by
  show PySem.W.alike (.tuple _) (.tuple _) = true
  rw [PySem.W.alike]
  exact alike_rowsAll a b
theorem depthAll_rows : ∀ T : List (List Int), PyData.depthAll (T.map dTup) ≤ 1
  | [] => by simp [PyData.depthAll]
  | t :: T => by
    show PyData.depthAll (dTup t :: T.map dTup) ≤ 1
    rw [PyData.depthAll]
    have := depth_tup t
    have := depthAll_rows T
    omega
theorem depth_dRws (T : List (List Int)) : (dRws T).depth ≤ 2 := by
  have := depthAll_rows T
  show PyData.depth (.tuple _) ≤ 2
  rw [PyData.depth]
  omega
def rSrtRR (K : PySem.W.Frag) : List V → Hp → VK → Prop := fun vs H Q => ∃ (a : Addr) (xs : List V) (TS : List (List (List Int))), vs = [V.ref a] ∧ SqL K H a xs ∧ RpAll K H xs (TS.map dRws) ∧
  ∀ (ys : List V) (p : Addr) (US : List (List (List Int))), US.Perm TS → RpAll K H ys (US.map dRws) → H p = none → Q (.ref p) (upd H p (.lst ys))
theorem srtRR {X : Cx} (K : PySem.W.Frag) (hu : X.A.units + 65 < cLine) (hK : X.K = K := by rfl) : CallR X (.builtin "sorted") (rSrtRR K) := by
  subst hK
  intro pins s σ H vs us Q I r h
  obtain ⟨a, xs, TS, rfl, hs, hx, q⟩ := h
  obtain ⟨its, rv, hl, hz⟩ := I.list hs
  rw [Vals.ref1 r]
  obtain ⟨bs, e1, e2, hb⟩ := zippedD hx
  subst e1
  have each := vals_eachD rv
  have lb : bs.length = its.length := by
    have := rv.length
    rw [List.length_map] at this
    exact this
  have er := each_readsD I each hb
  have er' : PySem.W.EachIs (fun v (b : V × List (List Int)) => ∃ as, Reads (PySem.W.sortingHeap (PySem.W.copyHeap s.heap its) (s.heap.objs.size + 1) its) v (dRws b.2) as) its bs := er.mono fun _ _ ⟨as, r⟩ => ⟨as, PyProof.Rows.Reads.keeps (fun _ _ => PySem.W.sorting_copy_old) r⟩
  have hal : PySem.W.AllAlike (bs.map fun b => dRws b.2) := PySem.W.AllAlike.of fun b b' => alike_rows _ _
  have hbd : ∀ b, b ∈ bs → X.A.units + 2 + (dRws b.2).depth < cLine := fun b m => by
    have := depth_dRws b.2
    omega
  have lz : its.length ≤ sizeLine := by rw [← lb]; rw [List.length_map] at hz; exact hz
  refine PySem.W.sorted_vals hl.isList (sortsAt_tups (s := { s with heap := PySem.W.sortingHeap (PySem.W.copyHeap s.heap its) (s.heap.objs.size + 1) its }) (PySem.W.each_map (R := fun v d => ∃ as, Reads (PySem.W.sortingHeap (PySem.W.copyHeap s.heap its) (s.heap.objs.size + 1) its) v d as) (fun b : V × List (List Int) => dRws b.2) er') hal (fun d hd => by
    obtain ⟨b, m, rfl⟩ := List.mem_map.mp hd
    exact ⟨_, rfl⟩) (PySem.W.bound_map hbd)) lz ?_
  have h2 := PySem.W.sortVals_data false each er' hal
  obtain ⟨ep, he⟩ := PyProof.Rows.sortedAll_at s.heap its (PySem.W.sortVals (PySem.W.dataKind (PySem.W.sortingHeap (PySem.W.copyHeap s.heap its) (s.heap.objs.size + 1) its) (bs.map fun b => dRws b.2)) false its its).toArray
  have p := List.mergeSort_perm bs (PySem.W.dataLe false fun b => dRws b.2)
  have ev := each_valsD h2
  have hb2 : ∀ b ∈ bs.mergeSort (PySem.W.dataLe false fun b => dRws b.2), Rp X.K H b.1 (dRws b.2) := fun b m => hb b (p.mem_iff.mp m)
  have rr := rp_zipD hb2
  have p2 := p.map (·.2)
  rw [e2] at p2
  have hlen : ((bs.mergeSort (PySem.W.dataLe false fun b => dRws b.2)).map (·.1)).length = (bs.map (·.1)).length := by
    rw [List.length_map, List.length_map, p.length_eq]
  generalize (bs.mergeSort (PySem.W.dataLe false fun b => dRws b.2)).map (·.1) = ys at ev rr hlen
  exact ⟨.ref _, upd H (s.heap.objs.size + 1) (.lst ys), I.laid (t' := s.toks) (fun _ _ => PyProof.Rows.sortedAll_old) (Nat.le_succ _) ⟨by rw [hlen]; exact hz, _, ep, ev, he⟩, rfl, q _ _ _ p2 rr (I.hok.fresh (Nat.le_succ _))⟩
end LK
/-! a dict whose keys are tuples of tuples of ints -/
namespace LK
open PySem PySem.Spec PyProof.Rows L2
abbrev NKs := List (NestedKey × Addr × Value)
/-- the dict at d, its entries -/
def NdO (P : Program) (w : World) (d : Addr) (xs : NKs) : HO := .ext fun h => (d == sysModules) = false ∧ xs.length ≤ sizeLine ∧ (xs.map (·.1)).Nodup ∧ ∃ o es ep, h.get? d = some o ∧ o.ExactDict ∧ o.data = .dict es ep ∧ es.toList = xs.map (entryOfKey (nestedKind P w))
def nKey (T : List (List Int)) : NestedKey := .tup (T.map fun r => .tup (r.map .num))
theorem depth_nums : ∀ r : List Int, NestedKey.depthAll (r.map .num) = 0
  | [] => rfl
  | x :: r => by
    show NestedKey.depthAll (.num x :: r.map .num) = 0
    rw [NestedKey.depthAll, depth_nums r]
    rfl
theorem depth_nRows : ∀ T : List (List Int), NestedKey.depthAll (T.map fun r => NestedKey.tup (r.map .num)) ≤ 1
  | [] => by simp [NestedKey.depthAll]
  | t :: T => by
    show NestedKey.depthAll (.tup (t.map .num) :: T.map fun r => NestedKey.tup (r.map .num)) ≤ 1
    rw [NestedKey.depthAll, NestedKey.depth, depth_nums t]
    have := depth_nRows T
    omega
theorem depth_nKey (T : List (List Int)) : (nKey T).depth ≤ 8 := by
  have := depth_nRows T
  unfold nKey
  rw [NestedKey.depth]
  omega
theorem nested_ints {h : Heap} : ∀ {r : List Int} {us : List Value} {as : List Addr}, ReadsAll h us (r.map PyData.int) as → NestedAll h (r.map .num) us
  | [], _, _, q => by cases q; exact .nil
  | x :: r, _, _, q => by
    cases q with
    | cons a b =>
      cases a
      exact .cons (.int _ _) (nested_ints b)
theorem nested_rows {h : Heap} : ∀ {T : List (List Int)} {us : List Value} {as : List Addr}, ReadsAll h us (T.map dTup) as → NestedAll h (T.map fun r => .tup (r.map .num)) us
  | [], _, _, q => by cases q; exact .nil
  | t :: T, _, _, q => by
    cases q with
    | cons a b =>
      cases a with
      | tuple h1 h2 h3 h4 => exact .cons (.tup h1 h2 h3 (nested_ints h4)) (nested_rows b)
theorem nested_of {h : Heap} {T : List (List Int)} {u : Value} {as : List Addr} (r : Reads h u (dRws T) as) : NestedIs h (nKey T) u := by
  cases r with
  | tuple h1 h2 h3 h4 => exact .tup h1 h2 h3 (nested_rows h4)
theorem nKey_inj {S T : List (List Int)} (h : nKey S = nKey T) : S = T := by
  have i1 : ∀ {a b : List Int}, a.map NestedKey.num = b.map NestedKey.num → a = b := fun {a} => by
    induction a with
    | nil => intro b e; cases b with
      | nil => rfl
      | cons _ _ => cases e
    | cons x a ih => intro b e; cases b with
      | nil => cases e
      | cons y b =>
        injection e with e1 e2
        injection e1 with e1
        rw [e1, ih e2]
  have i2 : ∀ {a b : List (List Int)}, (a.map fun r => NestedKey.tup (r.map .num)) = (b.map fun r => NestedKey.tup (r.map .num)) → a = b := fun {a} => by
    induction a with
    | nil => intro b e; cases b with
      | nil => rfl
      | cons _ _ => cases e
    | cons x a ih => intro b e; cases b with
      | nil => cases e
      | cons y b =>
        injection e with e1 e2
        injection e1 with e1
        rw [i1 e1, ih e2]
  unfold nKey at h
  injection h with h
  exact i2 h
/-- every key of it is known -/
def NdKeys (K : PySem.W.Frag) (H : Hp) (good : List (List Int) → Prop) (xs : NKs) : Prop := ∀ x ∈ xs, ∃ T, good T ∧ x.1 = nKey T ∧ Rp K H (.ref x.2.1) (dRws T)
theorem NdKeys.same {K : PySem.W.Frag} {H H' : Hp} {good : List (List Int) → Prop} {xs : NKs} (h : NdKeys K H good xs) (s : Same H H') : NdKeys K H' good xs := fun x hx => by
  obtain ⟨T, g, e, r⟩ := h x hx
  exact ⟨T, g, e, r.same s⟩
theorem stored_mem {xs : NKs} {k : NestedKey} {a : Addr} {v : Value} {x : NestedKey × Addr × Value} (h : x ∈ storedH xs k a v) : (∃ y ∈ xs, x.1 = y.1 ∧ x.2.1 = y.2.1) ∨ (x.1 = k ∧ x.2.1 = a) := by
  unfold storedH at h
  by_cases c : (atKey xs k).isSome = true
  · rw [if_pos c] at h
    obtain ⟨y, hy, rfl⟩ := List.mem_map.mp h
    refine .inl ⟨y, hy, ?_⟩
    unfold putAt
    split <;> exact ⟨rfl, rfl⟩
  · rw [if_neg c] at h
    rcases List.mem_append.mp h with h | h
    · exact .inl ⟨x, h, rfl, rfl⟩
    · rw [List.mem_singleton.mp h]
      exact .inr ⟨rfl, rfl⟩
theorem stored_len (xs : NKs) (k : NestedKey) (a : Addr) (v : Value) : (storedH xs k a v).length ≤ xs.length + 1 := by
  unfold storedH
  split
  · rw [List.length_map]; omega
  · rw [List.length_append]; exact Nat.le_refl _
/-- {}, to be such a dict -/
def tDNewN (P : Program) (w : World) : TE := fun _ H Q => ∀ p, H p = none → Q (.ref p) (upd H p (NdO P w p []))
theorem pe_dnewN {X : Cx} {pos : Pos} (P : Program) (w : World) (hP : X.prog = P := by rfl) (hw : X.w = w := by rfl) : PE X (.Dict [] [] pos) (tDNewN P w) := ⟨fun pins s σ H Q I h => by
  subst hP hw
  refine wpAny_Dict_empty ⟨.ref s.heap.objs.size, _, I.laid (a := s.heap.objs.size) (o := NdO X.prog X.w s.heap.objs.size []) (t' := s.toks) (fun _ _ q => Heap.get?_push_of_some _ q) (Nat.le_refl _) ?_, rfl, h _ (I.hok.fresh (Nat.le_refl _))⟩
  have e : (s.heap.push { cls := .type "dict", data := .dict #[] }).get? s.heap.objs.size = some { cls := .type "dict", data := .dict #[] } := Heap.get?_push_size _ rfl
  exact ⟨⟨beq_eq_false_iff_ne.mpr (Ne.symm (Nat.ne_of_lt I.big)), Nat.zero_le _, List.nodup_nil, _, #[], 0, e, ⟨rfl, rfl, rfl⟩, rfl, rfl⟩, ⟨_, e⟩, fun h1 h2 ⟨q1, q2, q3, o, es, ep, q4, q5⟩ k => ⟨q1, q2, q3, o, es, ep, k _ q4, q5⟩⟩⟩
/-- d[y] = v, y a tuple of tuples of ints -/
def sNPut (K : PySem.W.Frag) (P : Program) (w : World) (td ty tv : TE) : TS := fun D σ H => tv σ H fun v H1 => td σ H1 fun x H2 => ty σ H2 fun y H3 => ∃ (d a : Addr) (xs : NKs) (good : List (List Int) → Prop) (T : List (List Int)), x = .ref d ∧ y = .ref a ∧ H3 d = some (NdO P w d xs) ∧ NdKeys K H3 good xs ∧ xs.length < sizeLine ∧ Rp K H3 (.ref a) (dRws T) ∧
  ∀ u, D.nx σ (upd H3 d (NdO P w d (storedH xs (nKey T) a u)))
theorem ps_nput {X : Cx} {o i value : Expr} {pos pos' : Pos} {td ty tv : TE} (K : PySem.W.Frag) (P : Program) (w : World) (hu : X.A.units + 65 < cLine) (ho : PE X o td) (hi : PE X i ty) (hv : PE X value tv) (hs : swapsWith value (some (.Subscript o i pos')) pos.line X.env = pure false) (hK : X.K = K := by rfl) (hP : X.prog = P := by rfl) (hw : X.w = w := by rfl) :
    PS X (.Assign [.Subscript o i pos'] value pos) (sNPut K P w td ty tv) := by
  subst hK hP hw
  refine ⟨fun pins s σ H D I h => ?_⟩
  refine wpAny_Assign_Subscript (thn (hv.run pins s σ H _ I h) fun r s1 ⟨v, H1, I1, rv, q1⟩ => thn (ho.run pins s1 σ H1 _ I1 q1) fun u s2 ⟨x, H2, I2, rx, q2⟩ => thn (hi.run pins s2 σ H2 _ I2 q2) fun iv s3 ⟨y, H3, I3, ry, d, a, xs, good, T, ex, ey, e, hk, hl, ra, q3⟩ => ?_) hs
  subst ex ey
  obtain rfl : u = Value.ref d := rx
  obtain rfl : iv = Value.ref a := ry
  obtain ⟨⟨hd, hz, nd, ob, es, ep, h1, h2, h3, h4⟩, _, st⟩ := I3.hok d _ e
  obtain ⟨as, rd⟩ := Dp.reads I3 _ _ (.ref a) ra.dp rfl
  have isk : (nestedKind X.prog X.w).is s3.heap (nKey T) a := ⟨nested_of rd, depth_nKey T⟩
  have dd : s3.heap.DictOfH (nestedKind X.prog X.w) d xs := ⟨ob, es, ep, h1, h2, h3, h4, fun x hx => by
    obtain ⟨T', _, e', r'⟩ := hk x hx
    obtain ⟨as', rd'⟩ := Dp.reads I3 _ _ (.ref x.2.1) r'.dp rfl
    rw [e']
    exact ⟨nested_of rd', depth_nKey T'⟩, nd⟩
  have room : (nestedKind X.prog X.w).room X.A.in1 := by
    show X.A.units + 1 + 8 < cLine
    omega
  refine wpAny_setItem_heap (hsz := Nat.le_of_lt hl) room isk dd fun h' dd' hs' => ⟨σ, _, ?_, q3 r⟩
  obtain ⟨o', es', ep', g1, g2, g3, g4, _, g5⟩ := dd'
  refine d_write I3 (by rw [e]; exact True.intro) hs' ⟨_, g1⟩ ⟨⟨hd, ?_, g5, o', es', ep', g1, g2, g3, g4⟩, ⟨_, g1⟩, fun h1 h2 ⟨q1, q2, q3, o, es, ep, q4, q5⟩ k => ⟨q1, q2, q3, o, es, ep, k _ q4, q5⟩⟩
  have := stored_len xs (nKey T) a r
  omega
/-- list(d) -/
def rListN (P : Program) (w : World) : List V → Hp → VK → Prop := fun xs H Q => ∃ (d : Addr) (ks : NKs), xs = [V.ref d] ∧ H d = some (NdO P w d ks) ∧ ∀ p, H p = none → Q (.ref p) (upd H p (.lst (ks.map fun k => V.ref k.2.1)))
theorem vals_refsN : ∀ ks : NKs, Vals (ks.map fun k => V.ref k.2.1) (ks.map fun k => Value.ref k.2.1)
  | [] => .nil
  | _ :: r => .cons rfl (vals_refsN r)
theorem lstN {X : Cx} (P : Program) (w : World) (hc : X.calm = true := by rfl) (hP : X.prog = P := by rfl) (hw : X.w = w := by rfl) : CallR X (.type "list") (rListN P w) := by
  subst hP hw
  intro pins s σ H xs us Q I r h
  obtain ⟨d, ks, rfl, hd, q⟩ := h
  obtain ⟨u, rfl, rx⟩ := r.one
  cases rx
  obtain ⟨⟨hs, hz, nd, ob, es, ep, h1, h2, h3, h4⟩, _, st⟩ := I.hok d _ hd
  have l1 : es.size = ks.length := size_of_entries h4
  refine PySem.W.kdl_call (kdl_raw hs h2 h3) (I.ok.hd hc) h1 (by omega) fun h' tk acc' c' kp e it => ?_
  have ea : acc'.toList = ks.map fun x => Value.ref x.2.1 := by
    have hl : acc'.toList.length = ks.length := by rw [Array.length_toList, it.1]; exact l1
    apply List.ext_getElem?
    intro j
    rw [List.getElem?_map]
    cases hj : acc'.toList[j]? with
    | none =>
      have h1 := List.getElem?_eq_none_iff.mp hj
      rw [List.getElem?_eq_none (by omega)]
      all_goals rfl
    | some v =>
      obtain ⟨en, hen, hv⟩ := it.2 j v (by rw [← Array.getElem?_toList]; exact hj)
      have qe := entry_at h4 j
      rw [hen] at qe
      cases hb : ks[j]? with
      | none =>
        rw [hb] at qe
        exact nomatch (show some en = none from qe)
      | some b =>
        rw [hb] at qe
        have e2 : en = entryOfKey (nestedKind X.prog X.w) b := Option.some.inj qe
        rw [hv, e2]
        all_goals rfl
  have rv : Vals (ks.map fun k => V.ref k.2.1) acc'.toList := by rw [ea]; exact vals_refsN _
  refine ⟨.ref s.heap.objs.size, _, I.laid (t' := tk) (o := .lst (ks.map fun k => V.ref k.2.1)) kp (Nat.le_refl _) ?_, rfl, q _ (I.hok.fresh (Nat.le_refl _))⟩
  exact ⟨by rw [List.length_map]; exact hz, acc'.toList, c', rv, by rw [Array.toArray_toList]; exact e⟩
/-! what stands while the dict is written -/
theorem nd_T {K : PySem.W.Frag} {H : Hp} {S a : Addr} {φ : Heap → Prop} {xs : List V} (hS : H S = some (.ext φ)) (s : SqT K H a xs) : SqT K (hide S H) a xs := by
  have ne : ∀ o, H a = some o → (∀ φ, o ≠ .ext φ) → hide S H a = some o := fun o h n => by
    rw [hide_ne]
    · exact h
    · intro e
      subst e
      rw [hS] at h
      exact n _ (Option.some.inj h).symm
  rcases s with (h | ⟨o, h⟩) | h
  · exact .inl (.inl (ne _ h fun _ q => by cases q))
  · exact .inl (.inr ⟨o, ne _ h fun _ q => by cases q⟩)
  · exact .inr h
theorem nd_L {K : PySem.W.Frag} {H : Hp} {S a : Addr} {φ : Heap → Prop} {xs : List V} (hS : H S = some (.ext φ)) (s : SqL K H a xs) : SqL K (hide S H) a xs := by
  have ne : ∀ o, H a = some o → (∀ φ, o ≠ .ext φ) → hide S H a = some o := fun o h n => by
    rw [hide_ne]
    · exact h
    · intro e
      subst e
      rw [hS] at h
      exact n _ (Option.some.inj h).symm
  rcases s with (h | ⟨o, h⟩) | h
  · exact .inl (.inl (ne _ h fun _ q => by cases q))
  · exact .inl (.inr ⟨o, ne _ h fun _ q => by cases q⟩)
  · exact .inr h
mutual
theorem rp_ext {K : PySem.W.Frag} {H : Hp} {S : Addr} {φ : Heap → Prop} (hS : H S = some (.ext φ)) : ∀ {d : PyData} {v : V}, Rp K H v d → Rp K (hide S H) v d
  | .none, _, h => by cases h; exact .non
  | .bool b, _, h => by cases h; exact .bl b
  | .int i, _, h => by cases h; exact .int i
  | .str x, _, h => by cases h; exact .str x
  | .list ds, _, h => by
    cases h with
    | lst s l r => exact .lst (nd_L hS s) l (rpAll_ext hS r)
  | .tuple ds, _, h => by
    cases h with
    | tup s l r => exact .tup (nd_T hS s) l (rpAll_ext hS r)
theorem rpAll_ext {K : PySem.W.Frag} {H : Hp} {S : Addr} {φ : Heap → Prop} (hS : H S = some (.ext φ)) : ∀ {ds : List PyData} {vs : List V}, RpAll K H vs ds → RpAll K (hide S H) vs ds
  | [], _, h => by cases h; exact .nil
  | d :: ds, _, h => by
    cases h with
    | cons a b => exact .cons (rp_ext hS a) (rpAll_ext hS b)
end
end LK
/-! a dict whose keys are of a kind that is told, its values known -/
namespace LK
open PySem PySem.Spec PyProof.Rows L2
/-- a kind of keys: tuples of what NestedKey takes -/
structure KeyT (α : Type) where
  enc : α → PyData
  nk : α → NestedKey
  inj : ∀ {a b : α}, nk a = nk b → a = b
  dep : ∀ a : α, (nk a).depth ≤ 8
  nes : ∀ {h : Heap} {u : Value} {a : α} {as : List Addr}, Reads h u (enc a) as → NestedIs h (nk a) u
variable {α : Type} [DecidableEq α] {E : KeyT α}
/-- entries: where the key lies, the key, the value -/
abbrev KDs (α : Type) := List (Addr × α × V)
def kdGet (ks : KDs α) (T : α) : Option V := (ks.find? fun e => decide (e.2.1 = T)).map (·.2.2)
def kdPutAt (T : α) (v : V) (e : Addr × α × V) : Addr × α × V := if e.2.1 = T then (e.1, e.2.1, v) else e
def kdPut (ks : KDs α) (a : Addr) (T : α) (v : V) : KDs α := if (kdGet ks T).isSome then ks.map (kdPutAt T v) else ks ++ [(a, T, v)]
abbrev KAl (E : KeyT α) : KDs α → NKs → Prop := Paired fun e x => x.1 = E.nk e.2.1 ∧ x.2.1 = e.1 ∧ RelV e.2.2 x.2.2
def KdO (E : KeyT α) (P : Program) (w : World) (d : Addr) (ks : KDs α) : HO := .ext fun h => (d == sysModules) = false ∧ ks.length ≤ sizeLine ∧ (ks.map (·.2.1)).Nodup ∧ ∃ xs, KAl E ks xs ∧ ∃ o es ep, h.get? d = some o ∧ o.ExactDict ∧ o.data = .dict es ep ∧ es.toList = xs.map (entryOfKey (nestedKind P w))
/-- every key lies where it is told -/
def KdKeys (E : KeyT α) (K : PySem.W.Frag) (H : Hp) (ks : KDs α) : Prop := ∀ e ∈ ks, Rp K H (.ref e.1) (E.enc e.2.1)
theorem KdKeys.same {K : PySem.W.Frag} {H H' : Hp} {ks : KDs α} (h : KdKeys E K H ks) (s : Same H H') : KdKeys E K H' ks := fun e he => (h e he).same s
theorem kal_len {ks : KDs α} {xs : NKs} (h : KAl E ks xs) : ks.length = xs.length := Paired.length h
theorem kal_get {ks : KDs α} {xs : NKs} {T : α} (h : KAl E ks xs) : (kdGet ks T = none ∧ atKey xs (E.nk T) = none) ∨ ∃ v p, kdGet ks T = some v ∧ atKey xs (E.nk T) = some p ∧ RelV v p.2 := by
  induction h with
  | nil => exact .inl ⟨rfl, rfl⟩
  | @cons e x ks xs r _ ih =>
    obtain ⟨r1, r2, r3⟩ := r
    by_cases c : e.2.1 = T
    · refine .inr ⟨e.2.2, x.2, ?_, ?_, r3⟩
      · unfold kdGet
        rw [List.find?_cons_of_pos (by rw [decide_eq_true c])]
        rfl
      · unfold atKey
        rw [List.find?_cons_of_pos (by rw [r1, c, decide_eq_true rfl])]
        rfl
    · have e1 : kdGet (e :: ks) T = kdGet ks T := by
        unfold kdGet
        rw [List.find?_cons_of_neg (by simp [c])]
      have e2 : atKey (x :: xs) (E.nk T) = atKey xs (E.nk T) := by
        unfold atKey
        rw [List.find?_cons_of_neg (by rw [r1]; simp; exact fun z => c (E.inj z))]
      rw [e1, e2]
      exact ih
theorem kal_some {ks : KDs α} {xs : NKs} {T : α} (h : KAl E ks xs) : (atKey xs (E.nk T)).isSome = (kdGet ks T).isSome := by
  rcases kal_get (T := T) h with ⟨a, b⟩ | ⟨v, p, a, b, _⟩
  · rw [a, b]; rfl
  · rw [a, b]; rfl
theorem kal_map {ks : KDs α} {xs : NKs} {T : α} {v : V} {r : Value} (h : KAl E ks xs) (rv : RelV v r) : KAl E (ks.map (kdPutAt T v)) (xs.map (putAt (E.nk T) r)) := by
  induction h with
  | nil => exact .nil
  | @cons e x ks xs q _ ih =>
    obtain ⟨r1, r2, r3⟩ := q
    refine .cons ?_ ih
    unfold kdPutAt putAt
    by_cases c : e.2.1 = T
    · rw [if_pos c, if_pos (by rw [r1, c])]
      exact ⟨r1, r2, rv⟩
    · rw [if_neg c, if_neg (by rw [r1]; exact fun z => c (E.inj z))]
      exact ⟨r1, r2, r3⟩
theorem kal_put {ks : KDs α} {xs : NKs} {T : α} {a : Addr} {v : V} {r : Value} (h : KAl E ks xs) (rv : RelV v r) : KAl E (kdPut ks a T v) (storedH xs (E.nk T) a r) := by
  unfold kdPut storedH
  rw [kal_some h]
  by_cases c : (kdGet ks T).isSome = true
  · rw [if_pos c, if_pos c]
    exact kal_map h rv
  · rw [if_neg c, if_neg c]
    exact Paired.snoc h ⟨rfl, rfl, rv⟩
theorem kal_keys {ks : KDs α} {xs : NKs} (h : KAl E ks xs) : xs.map (·.1) = (ks.map (·.2.1)).map E.nk := by
  induction h with
  | nil => rfl
  | cons q _ ih => rw [List.map_cons, List.map_cons, List.map_cons, ih, q.1]
theorem kal_nodup {ks : KDs α} {xs : NKs} (h : KAl E ks xs) : (xs.map (·.1)).Nodup ↔ (ks.map (·.2.1)).Nodup := by
  rw [kal_keys h]
  constructor
  · intro q
    refine List.Pairwise.imp (fun {a b} z e => z (by rw [e])) (List.pairwise_map.mp q)
  · intro q
    exact List.pairwise_map.mpr (List.Pairwise.imp (fun {a b} z e => z (E.inj e)) q)
theorem kd_len (ks : KDs α) (a : Addr) (T : α) (v : V) : (kdPut ks a T v).length ≤ ks.length + 1 := by
  unfold kdPut
  split
  · rw [List.length_map]; omega
  · rw [List.length_append]; exact Nat.le_refl _
theorem kd_nodup {ks : KDs α} {a : Addr} {T : α} {v : V} (h : (ks.map (·.2.1)).Nodup) : ((kdPut ks a T v).map (·.2.1)).Nodup := by
  unfold kdPut
  by_cases c : (kdGet ks T).isSome = true
  · rw [if_pos c, List.map_map]
    have : ((fun x : Addr × α × V => x.2.1) ∘ kdPutAt T v) = fun x => x.2.1 := by
      funext e
      show (kdPutAt T v e).2.1 = e.2.1
      unfold kdPutAt
      split <;> rfl
    rw [this]
    exact h
  · rw [if_neg c, List.map_append]
    refine List.nodup_append.mpr ⟨h, by simp, fun x hx y hy e => c ?_⟩
    have hy : y = T := by simpa using hy
    subst e hy
    obtain ⟨e, he, ee⟩ := List.mem_map.mp hx
    unfold kdGet
    rw [Option.isSome_map, List.find?_isSome]
    exact ⟨e, he, decide_eq_true ee⟩
theorem kd_mem {ks : KDs α} {a : Addr} {T : α} {v : V} {e : Addr × α × V} (h : e ∈ kdPut ks a T v) : (∃ y ∈ ks, e.1 = y.1 ∧ e.2.1 = y.2.1) ∨ (e.1 = a ∧ e.2.1 = T) := by
  unfold kdPut at h
  by_cases c : (kdGet ks T).isSome = true
  · rw [if_pos c] at h
    obtain ⟨y, hy, rfl⟩ := List.mem_map.mp h
    refine .inl ⟨y, hy, ?_⟩
    unfold kdPutAt
    split <;> exact ⟨rfl, rfl⟩
  · rw [if_neg c] at h
    rcases List.mem_append.mp h with h | h
    · exact .inl ⟨e, h, rfl, rfl⟩
    · rw [List.mem_singleton.mp h]
      exact .inr ⟨rfl, rfl⟩
theorem kfind_map {ks : KDs α} {T U : α} {v : V} : (ks.map (kdPutAt T v)).find? (fun e => decide (e.2.1 = U)) = (ks.find? fun e => decide (e.2.1 = U)).map (kdPutAt T v) := by
  induction ks with
  | nil => rfl
  | cons e ks ih =>
    have e1 : (kdPutAt T v e).2.1 = e.2.1 := by unfold kdPutAt; split <;> rfl
    rw [List.map_cons]
    by_cases c : e.2.1 = U
    · rw [List.find?_cons_of_pos (by rw [e1, decide_eq_true c]), List.find?_cons_of_pos (by rw [decide_eq_true c])]
      rfl
    · rw [List.find?_cons_of_neg (by rw [e1]; simp [c]), List.find?_cons_of_neg (by simp [c]), ih]
/-- what is found behind a writing -/
theorem kd_get_put (ks : KDs α) (a : Addr) (T U : α) (v : V) : kdGet (kdPut ks a T v) U = if U = T then some v else kdGet ks U := by
  unfold kdPut
  by_cases c : (kdGet ks T).isSome = true
  · rw [if_pos c]
    unfold kdGet
    rw [kfind_map]
    by_cases e : U = T
    · subst e
      rw [if_pos rfl]
      unfold kdGet at c
      rw [Option.isSome_map] at c
      obtain ⟨x, hx⟩ := Option.isSome_iff_exists.mp c
      have hp : decide (x.2.1 = U) = true := List.find?_some (p := fun e : Addr × α × V => decide (e.2.1 = U)) hx
      rw [hx]
      show some (kdPutAt U v x).2.2 = some v
      unfold kdPutAt
      rw [if_pos (of_decide_eq_true hp)]
    · rw [if_neg e]
      cases hx : ks.find? (fun e => decide (e.2.1 = U)) with
      | none => rfl
      | some x =>
        have hp : decide (x.2.1 = U) = true := List.find?_some (p := fun e : Addr × α × V => decide (e.2.1 = U)) hx
        have hp := of_decide_eq_true hp
        show some (kdPutAt T v x).2.2 = some x.2.2
        unfold kdPutAt
        rw [if_neg (by rw [hp]; exact e)]
  · rw [if_neg c]
    unfold kdGet at c ⊢
    rw [List.find?_append]
    by_cases e : U = T
    · subst e
      rw [if_pos rfl]
      have : ks.find? (fun e => decide (e.2.1 = U)) = none := by
        cases hx : ks.find? (fun e => decide (e.2.1 = U)) with
        | none => rfl
        | some x => rw [hx] at c; exact absurd rfl c
      rw [this, Option.none_or, List.find?_cons_of_pos (by simp)]
      rfl
    · rw [if_neg e]
      have : [(a, T, v)].find? (fun e : Addr × α × V => decide (e.2.1 = U)) = none := by
        rw [List.find?_cons_of_neg (by simp; exact fun z => e z.symm)]
        rfl
      rw [this, Option.or_none]
section
variable {K : PySem.W.Frag} {P : Program} {w : World}
/-- the dict, locked or not -/
def AtKd (E : KeyT α) (P : Program) (w : World) (H : Hp) (d : Addr) (ks : KDs α) : Prop := H d = some (KdO E P w d ks) ∨ ∃ od, H d = some (.frz od (KdO E P w d ks))
theorem at_fact {X : Cx} {pins : List (Addr × Obj)} {σ : L2.St} {H : Hp} {s : Shared} {d : Addr} {ks : KDs α} (I : Inv X pins σ H s) (e : AtKd E X.prog X.w H d ks) : (d == sysModules) = false ∧ ks.length ≤ sizeLine ∧ (ks.map (·.2.1)).Nodup ∧ ∃ xs, KAl E ks xs ∧ ∃ o es ep, s.heap.get? d = some o ∧ o.ExactDict ∧ o.data = .dict es ep ∧ es.toList = xs.map (entryOfKey (nestedKind X.prog X.w)) := by
  rcases e with e | ⟨od, e⟩
  · exact (I.hok d _ e).1
  · exact (I.hok d _ e).2.1
theorem kd_is {X : Cx} {pins : List (Addr × Obj)} {σ : L2.St} {H : Hp} {s : Shared} {a : Addr} {T : α} (I : Inv X pins σ H s) (ra : Rp X.K H (.ref a) (E.enc T)) : (nestedKind X.prog X.w).is s.heap (E.nk T) a := by
  obtain ⟨as, rd⟩ := Dp.reads I _ _ (.ref a) ra.dp rfl
  exact ⟨E.nes rd, E.dep T⟩
theorem kd_at {X : Cx} {pins : List (Addr × Obj)} {σ : L2.St} {H : Hp} {s : Shared} {d : Addr} {ks : KDs α} (I : Inv X pins σ H s) (e : AtKd E X.prog X.w H d ks) (hk : KdKeys E X.K H ks) : (d == sysModules) = false ∧ ks.length ≤ sizeLine ∧ ∃ xs, KAl E ks xs ∧ s.heap.DictOfH (nestedKind X.prog X.w) d xs := by
  obtain ⟨hd, hz, nd, xs, al, ob, es, ep, h1, h2, h3, h4⟩ := at_fact I e
  refine ⟨hd, hz, xs, al, ob, es, ep, h1, h2, h3, h4, fun x hx => ?_, (kal_nodup al).mpr nd⟩
  have all : ∀ {l : KDs α} {m : NKs}, KAl E l m → (∀ e ∈ l, Rp X.K H (.ref e.1) (E.enc e.2.1)) → ∀ x ∈ m, (nestedKind X.prog X.w).is s.heap x.1 x.2.1 := by
    intro l m q
    induction q with
    | nil => intro _ x hx; exact nomatch hx
    | @cons p q ps qs hq t ih =>
      intro hl x hx
      rcases List.mem_cons.mp hx with e | hx
      · subst e
        rw [hq.1, hq.2.1]
        exact kd_is I (hl p List.mem_cons_self)
      · exact ih (fun e he => hl e (List.mem_cons_of_mem _ he)) x hx
  exact all al hk x hx
theorem kd_room {A : Around} (hu : A.units + 65 < cLine) : (nestedKind P w).room A.in1 := by
  show A.units + 1 + 8 < cLine
  omega
/-- {}, to be such a dict -/
def tDNewKd (E : KeyT α) (P : Program) (w : World) : TE := fun _ H Q => ∀ p, H p = none → Q (.ref p) (upd H p (KdO E P w p []))
theorem pe_dnewKd {X : Cx} {pos : Pos} (E : KeyT α) (P : Program) (w : World) (hP : X.prog = P := by rfl) (hw : X.w = w := by rfl) : PE X (.Dict [] [] pos) (tDNewKd E P w) := ⟨fun pins s σ H Q I h => by
  subst hP hw
  refine wpAny_Dict_empty ⟨.ref s.heap.objs.size, _, I.laid (a := s.heap.objs.size) (o := KdO E X.prog X.w s.heap.objs.size []) (t' := s.toks) (fun _ _ q => Heap.get?_push_of_some _ q) (Nat.le_refl _) ?_, rfl, h _ (I.hok.fresh (Nat.le_refl _))⟩
  have e : (s.heap.push { cls := .type "dict", data := .dict #[] }).get? s.heap.objs.size = some { cls := .type "dict", data := .dict #[] } := Heap.get?_push_size _ rfl
  exact ⟨⟨beq_eq_false_iff_ne.mpr (Ne.symm (Nat.ne_of_lt I.big)), Nat.zero_le _, List.nodup_nil, [], .nil, _, #[], 0, e, ⟨rfl, rfl, rfl⟩, rfl, rfl⟩, ⟨_, e⟩, fun h1 h2 ⟨q1, q2, q3, xs, q6, o, es, ep, q4, q5⟩ k => ⟨q1, q2, q3, xs, q6, o, es, ep, k _ q4, q5⟩⟩⟩
/-- d[y] = v -/
def sKdPut (E : KeyT α) (K : PySem.W.Frag) (P : Program) (w : World) (td ty tv : TE) : TS := fun D σ H => tv σ H fun v H1 => td σ H1 fun x H2 => ty σ H2 fun y H3 => ∃ (d a : Addr) (ks : KDs α) (T : α), x = .ref d ∧ y = .ref a ∧ H3 d = some (KdO E P w d ks) ∧ KdKeys E K H3 ks ∧ ks.length < sizeLine ∧ Rp K H3 (.ref a) (E.enc T) ∧
  D.nx σ (upd H3 d (KdO E P w d (kdPut ks a T v)))
theorem ps_kdput {X : Cx} {o i value : Expr} {pos pos' : Pos} {td ty tv : TE} (E : KeyT α) (K : PySem.W.Frag) (P : Program) (w : World) (hu : X.A.units + 65 < cLine) (ho : PE X o td) (hi : PE X i ty) (hv : PE X value tv) (hs : swapsWith value (some (.Subscript o i pos')) pos.line X.env = pure false) (hK : X.K = K := by rfl) (hP : X.prog = P := by rfl) (hw : X.w = w := by rfl) :
    PS X (.Assign [.Subscript o i pos'] value pos) (sKdPut E K P w td ty tv) := by
  subst hK hP hw
  refine ⟨fun pins s σ H D I h => ?_⟩
  refine wpAny_Assign_Subscript (thn (hv.run pins s σ H _ I h) fun r s1 ⟨v, H1, I1, rv, q1⟩ => thn (ho.run pins s1 σ H1 _ I1 q1) fun u s2 ⟨x, H2, I2, rx, q2⟩ => thn (hi.run pins s2 σ H2 _ I2 q2) fun iv s3 ⟨y, H3, I3, ry, d, a, ks, T, ex, ey, e, hk, hl, ra, q3⟩ => ?_) hs
  subst ex ey
  obtain rfl : u = Value.ref d := rx
  obtain rfl : iv = Value.ref a := ry
  obtain ⟨hd, hz, xs, al, dd⟩ := kd_at I3 (.inl e) hk
  obtain ⟨⟨_, _, nd, _⟩, _⟩ := I3.hok d _ e
  refine wpAny_setItem_heap (hsz := by rw [← kal_len al]; exact hz) (kd_room hu) (kd_is I3 ra) dd fun h' dd' hs' => ⟨σ, _, ?_, q3⟩
  obtain ⟨o', es', ep', g1, g2, g3, g4, _, g5⟩ := dd'
  refine d_write I3 (by rw [e]; exact True.intro) hs' ⟨_, g1⟩ ⟨⟨hd, ?_, kd_nodup nd, _, kal_put al rv, o', es', ep', g1, g2, g3, g4⟩, ⟨_, g1⟩, fun h1 h2 ⟨q1, q2, q3, xs, q6, o, es, ep, q4, q5⟩ k => ⟨q1, q2, q3, xs, q6, o, es, ep, k _ q4, q5⟩⟩
  have := kd_len ks a T v
  omega
/-- d[y] -/
def tKdGet (E : KeyT α) (K : PySem.W.Frag) (P : Program) (w : World) (td ty : TE) : TE := fun σ H Q => td σ H fun x H1 => ty σ H1 fun y H2 => ∃ (d a : Addr) (ks : KDs α) (T : α) (v : V), x = .ref d ∧ y = .ref a ∧ AtKd E P w H2 d ks ∧ KdKeys E K H2 ks ∧ Rp K H2 (.ref a) (E.enc T) ∧ kdGet ks T = some v ∧ Q v H2
theorem pe_kdget {X : Cx} {o i : Expr} {pos : Pos} {td ty : TE} (E : KeyT α) (K : PySem.W.Frag) (P : Program) (w : World) (hu : X.A.units + 65 < cLine) (ho : PE X o td) (hi : PE X i ty) (hs : NoSl i) (hK : X.K = K := by rfl) (hP : X.prog = P := by rfl) (hw : X.w = w := by rfl) : PE X (.Subscript o i pos) (tKdGet E K P w td ty) := by
  subst hK hP hw
  refine ⟨fun pins s σ H Q I h => ?_⟩
  refine subD_of PySem.F.slot_dict_getitem.lookup hs (thn (ho.run pins s σ H _ I h) fun u s1 ⟨x, H1, I1, rx, q1⟩ => thn (hi.run pins s1 σ H1 _ I1 q1) fun iv s2 ⟨y, H2, I2, ry, d, a, ks, T, v, ex, ey, e, hk, ra, g, q2⟩ => ?_)
  subst ex ey
  obtain rfl : u = Value.ref d := rx
  obtain rfl : iv = Value.ref a := ry
  obtain ⟨hd, hz, xs, al, dd⟩ := kd_at I2 e hk
  rcases kal_get (T := T) al with ⟨g1, _⟩ | ⟨v', p, g1, g2, rv⟩
  · rw [g1] at g
    cases g
  · rw [g1] at g
    cases g
    exact ⟨dd.typeIs, wpAny_getItem_heap (kd_room hu) (kd_is I2 ra) dd g2 ⟨v, H2, I2.tok _, rv, q2⟩⟩
/-- y in d, y not in d -/
def tKdIn (E : KeyT α) (neg : Bool) (K : PySem.W.Frag) (P : Program) (w : World) (ty td : TE) : TE := fun σ H Q => ty σ H fun y H1 => td σ H1 fun x H2 => ∃ (d a : Addr) (ks : KDs α) (T : α), x = .ref d ∧ y = .ref a ∧ AtKd E P w H2 d ks ∧ KdKeys E K H2 ks ∧ Rp K H2 (.ref a) (E.enc T) ∧ Q (.bl ((kdGet ks T).isSome != neg)) H2
theorem pc_kdin {X : Cx} {o i : Expr} {td ty : TE} (E : KeyT α) (K : PySem.W.Frag) (P : Program) (w : World) (hu : X.A.units + 65 < cLine) (hi : PE X i ty) (ho : PE X o td) (hK : X.K = K := by rfl) (hP : X.prog = P := by rfl) (hw : X.w = w := by rfl) : PC X .In i o (tKdIn E false K P w ty td) := by
  subst hK hP hw
  refine ⟨fun pins s σ H Q I h => ?_⟩
  refine thn (hi.run pins s σ H _ I h) fun iv s1 ⟨y, H1, I1, ry, q1⟩ => thn (ho.run pins s1 σ H1 _ I1 q1) fun u s2 ⟨x, H2, I2, rx, d, a, ks, T, ex, ey, e, hk, ra, q2⟩ => ?_
  subst ex ey
  obtain rfl : u = Value.ref d := rx
  obtain rfl : iv = Value.ref a := ry
  obtain ⟨hd, hz, xs, al, dd⟩ := kd_at I2 e hk
  refine wpAny_in_heap (kd_room hu) (kd_is I2 ra) hd dd ?_
  rw [kal_some al]
  rw [Bool.bne_false] at q2
  exact ⟨.bl _, H2, I2.tok _, rfl, q2⟩
theorem pc_kdnotin {X : Cx} {o i : Expr} {td ty : TE} (E : KeyT α) (K : PySem.W.Frag) (P : Program) (w : World) (hu : X.A.units + 65 < cLine) (hi : PE X i ty) (ho : PE X o td) (hK : X.K = K := by rfl) (hP : X.prog = P := by rfl) (hw : X.w = w := by rfl) : PC X .NotIn i o (tKdIn E true K P w ty td) := by
  subst hK hP hw
  refine ⟨fun pins s σ H Q I h => ?_⟩
  refine thn (hi.run pins s σ H _ I h) fun iv s1 ⟨y, H1, I1, ry, q1⟩ => thn (ho.run pins s1 σ H1 _ I1 q1) fun u s2 ⟨x, H2, I2, rx, d, a, ks, T, ex, ey, e, hk, ra, q2⟩ => ?_
  subst ex ey
  obtain rfl : u = Value.ref d := rx
  obtain rfl : iv = Value.ref a := ry
  obtain ⟨hd, hz, xs, al, dd⟩ := kd_at I2 e hk
  refine wpAny_notIn_heap (kd_room hu) (kd_is I2 ra) hd dd ?_
  rw [kal_some al]
  rw [Bool.bne_true] at q2
  exact ⟨.bl _, H2, I2.tok _, rfl, q2⟩
/-- for k in d, the dict locked -/
def ItKd (E : KeyT α) (P : Program) (w : World) (d : Addr) (od : Obj) (ks : KDs α) : It :=
  ⟨fun i H => H d = some (.frz od (KdO E P w d ks)) ∧ i < ks.length, fun i H x H' => H' = H ∧ ∃ e, ks[i]? = some e ∧ x = .ref e.1, fun i H => H d = some (.frz od (KdO E P w d ks)) ∧ ks.length ≤ i⟩
theorem frz_fact {X : Cx} {pins : List (Addr × Obj)} {σ : L2.St} {H : Hp} {s : Shared} {d : Addr} {od : Obj} {ks : KDs α} (I : Inv X pins σ H s) (e : H d = some (.frz od (KdO E X.prog X.w d ks))) : (d == sysModules) = false ∧ s.heap.get? d = some od ∧ od.ExactDict ∧ ∃ (es : Array DictEntry) (ep : Nat), od.data = .dict es ep ∧ es.size = ks.length ∧ ∀ (i : Nat) (x : Addr × α × V), ks[i]? = some x → ∃ en : DictEntry, es[i]? = some en ∧ en.key = .ref x.1 := by
  obtain ⟨hg, ⟨hd, hz, nd, xs, al, o, es, ep, h1, h2, h3, h4⟩, _⟩ := I.hok d _ e
  rw [hg] at h1
  cases h1
  have la := kal_len al
  have l1 : es.size = xs.length := size_of_entries h4
  refine ⟨hd, hg, h2, es, ep, h3, by omega, fun i x hx => ?_⟩
  obtain ⟨y, hy, r⟩ : ∃ y, xs[i]? = some y ∧ y.2.1 = x.1 := by
    have : ∀ {l : KDs α} {m : NKs} {i : Nat} {x : Addr × α × V}, KAl E l m → l[i]? = some x → ∃ y, m[i]? = some y ∧ y.2.1 = x.1 := by
      intro l m i x q
      induction q generalizing i with
      | nil => intro h; simp at h
      | @cons p q ps qs hq t ih =>
        intro h
        cases i with
        | zero => cases h; exact ⟨q, rfl, hq.2.1⟩
        | succ i => exact ih (i := i) (by simpa using h)
    exact this al hx
  have qe := entry_at h4 i
  rw [hy] at qe
  cases hn : es[i]? with
  | none => rw [hn] at qe; exact nomatch (show none = some _ from qe)
  | some en =>
    rw [hn] at qe
    have e2 : en = entryOfKey (nestedKind X.prog X.w) y := Option.some.inj qe
    refine ⟨en, rfl, ?_⟩
    rw [e2]
    show Value.ref y.2.1 = _
    rw [r]
theorem turn_kd {P : Program} {w : World} {K : PySem.W.Frag} {tg : Expr} {d : Addr} {o : Obj} {es : Array DictEntry} {ep : Nat} {ks : KDs α} (it : Addr) (hod : o.data = .dict es ep) : Turn P w K tg (ItKd E P w d o ks) [it] it (fun i h => h.IsKeyIter it d i ks.length ep) where
  mem := by simp
  obj := fun i h st b hb => by
    have e : b = it := by simpa using hb
    subst e
    obtain ⟨oi, e, c, dd⟩ := st
    exact ⟨oi, e, fun v z => by rw [dd] at z; cases z⟩
  keep := fun i h h' st k => st.at fun oi e => k it (by simp) oi e
  item := by
    intro X hP hw hK hc i pins s σ H E' I hf st hg
    subst hP hw hK
    obtain ⟨hd, hi⟩ := hg
    obtain ⟨f0, f1, f2, f3, f4, f5⟩ := hf it (by simp)
    obtain ⟨hs, hgd, hx, es', ep', hdt, hsz, ent⟩ := frz_fact I hd
    obtain ⟨rfl, rfl⟩ := dict_ep hod hdt
    obtain ⟨x, hxi⟩ : ∃ p, ks[i]? = some p := ⟨ks[i], List.getElem?_eq_getElem hi⟩
    obtain ⟨en, hen, hkey⟩ := ent i x hxi
    refine next_key_item st hgd hdt hsz hen fun h' st' sb => ?_
    have I1 : Inv X pins σ H { s with heap := h' } := I.turned (t' := s.toks) (fun b ob hb e => (sb.2 b hb).trans e) f0 f1 f3 f4 f5
    obtain ⟨oi, e, c, dd⟩ := id st'
    exact ⟨en.key, rfl, go_of (s := { s with heap := h' }) e c dd (by decide) ⟨.ref x.1, H, I1, hkey, ⟨rfl, x, hxi, rfl⟩, st', fun b hb => (hf b hb).1⟩⟩
  done := by
    intro X hP hw hK hc i pins s σ H E' I hf st hg
    subst hP hw hK
    obtain ⟨hd, hi⟩ := hg
    obtain ⟨f0, f1, f2, f3, f4, f5⟩ := hf it (by simp)
    obtain ⟨hs, hgd, hx, es', ep', hdt, hsz, ent⟩ := frz_fact I hd
    obtain ⟨rfl, rfl⟩ := dict_ep hod hdt
    exact next_key_end (I.ok.hd hc) st hgd hdt hsz hi fun h' eb => ⟨rfl, I.turned (t' := s.toks) (fun b ob hb e => eb b ob hb e) f0 f1 f3 f4 f5⟩
  self := fun A i s Q E' st h => by
    refine wpAny_pyIter_slot st.typeIs F.slot_dict_keyiterator_iter (wpAny_call_entry F.slot_dict_keyiterator_iter st.typeIs F.entry_dict_keyiterator_iter ?_ (F.args_dict_keyiterator_iter_1 _))
    show wpAny _ _ (ret (.ref it)) _ _ s
    exact wpAny_pure ⟨_, rfl, "dict_keyiterator", _, st.typeIs, F.slot_dict_keyiterator_next.lookup, h⟩
def iKd (E : KeyT α) (P : Program) (w : World) (td : TE) : TI := fun σ H R => td σ H fun x H1 => ∃ (d : Addr) (od : Obj) (ks : KDs α), x = .ref d ∧ H1 d = some (.frz od (KdO E P w d ks)) ∧ R (ItKd E P w d od ks) H1
theorem pi_kd {X : Cx} {tg e : Expr} {td : TE} (E : KeyT α) (P : Program) (w : World) (he : PE X e td) (hP : X.prog = P := by rfl) (hw : X.w = w := by rfl) : PI X tg e (iKd E P w td) := by
  subst hP hw
  refine ⟨fun pins s σ H R I h => ?_⟩
  refine thn (he.run pins s σ H _ I h) fun u s1 ⟨x, H1, I1, rx, d, od, ks, ex, hd, q⟩ => ?_
  subst ex
  obtain rfl : u = Value.ref d := rx
  obtain ⟨hs, hgd, hx, es, ep, hdt, hsz, ent⟩ := frz_fact I1 hd
  refine iter_keys hs hgd hx hdt (pi_one (tk := s1.toks) I1 _ (turn_kd _ hdt) ⟨_, Heap.get?_push_size _ rfl, rfl, ?_⟩ q)
  rw [hsz] <;> rfl
/-- a loop over such a dict -/
theorem for_kd {P : Program} {w : World} {d : Addr} {od : Obj} {ks : KDs α} {g : TG} {tb : TS} {D : Ends} {σ : L2.St} {H : Hp} (Pv : Nat → L2.St → Hp → Prop) (h0 : Pv 0 σ H) (hl : ∀ i σ H, i ≤ ks.length → Pv i σ H → H d = some (.frz od (KdO E P w d ks)))
    (hs : ∀ i e σ H, ks[i]? = some e → Pv i σ H → g (.ref e.1) σ H fun σ2 H2 => tb { D with nx := Pv (i + 1), ct := Pv (i + 1), bk := D.nx } σ2 H2) (hd : ∀ σ H, Pv ks.length σ H → D.nx σ H) :
    ∃ W : Nat → Nat → L2.St → Hp → Prop, (∃ m, W 0 m σ H) ∧ ∀ i m σ H, W i m σ H →
      ((ItKd E P w d od ks).stop i H ∧ D.nx σ H) ∨ ((ItKd E P w d od ks).go i H ∧ ∃ N : L2.St → Hp → Prop, (∀ σ' H', N σ' H' → ∃ m', m' < m ∧ W (i + 1) m' σ' H') ∧ ∀ x H', (ItKd E P w d od ks).yld i H x H' → g x σ H' fun σ2 H2 => tb { D with nx := N, ct := N, bk := D.nx } σ2 H2) := by
  refine ⟨fun i m σ H => m = ks.length - i ∧ i ≤ ks.length ∧ Pv i σ H, ⟨ks.length, by simp, Nat.zero_le _, h0⟩, ?_⟩
  rintro i m σ H ⟨rfl, hi, p⟩
  have q := hl i σ H hi p
  by_cases hlt : i < ks.length
  · refine .inr ⟨⟨q, hlt⟩, Pv (i + 1), fun σ' H' p' => ⟨ks.length - (i + 1), by omega, rfl, hlt, p'⟩, fun x H' ⟨eH, e, hx, ex⟩ => ?_⟩
    subst eH ex
    exact hs i e σ H' hx p
  · have : i = ks.length := by omega
    subst this
    exact .inl ⟨⟨q, Nat.le_refl _⟩, hd σ H p⟩
end
/-- pairs of whole numbers as keys -/
def pairK : KeyT (Int × Int) where
  enc p := dTup [p.1, p.2]
  nk p := .tup [.num p.1, .num p.2]
  inj {a b} h := by
    obtain ⟨a1, a2⟩ := a
    obtain ⟨b1, b2⟩ := b
    injection h with h
    injection h with h1 h
    injection h1 with h1
    injection h with h2 h
    injection h2 with h2
    exact Prod.ext h1 h2
  dep p := by simp [NestedKey.depth, NestedKey.depthAll]
  nes {h u a as} r := by
    cases r with
    | tuple h1 h2 h3 h4 => exact .tup h1 h2 h3 (nested_ints (r := [a.1, a.2]) h4)
/-- ropes: low, high, what is ahead -/
abbrev Rope := Int × Int × List Int
def dRope (r : Rope) : PyData := .tuple [.int r.1, .int r.2.1, dTup r.2.2]
theorem rope_all {h : Heap} {x y : Int} {l : List Int} {us : List Value} {as : List Addr} (r : ReadsAll h us [.int x, .int y, dTup l] as) : NestedAll h [.num x, .num y, .tup (l.map .num)] us := by
  cases r with
  | cons q1 h4 => cases h4 with
    | cons q2 h4 => cases h4 with
      | cons q3 h4 =>
        cases h4
        cases q1
        cases q2
        cases q3 with
        | tuple g1 g2 g3 g4 => exact .cons (.int _ _) (.cons (.int _ _) (.cons (.tup g1 g2 g3 (nested_ints g4)) .nil))
def ropeK : KeyT Rope where
  enc := dRope
  nk r := .tup [.num r.1, .num r.2.1, .tup (r.2.2.map .num)]
  inj {a b} h := by
    obtain ⟨a1, a2, a3⟩ := a
    obtain ⟨b1, b2, b3⟩ := b
    injection h with h
    injection h with h1 h
    injection h1 with h1
    injection h with h2 h
    injection h2 with h2
    injection h with h3 _
    injection h3 with h3
    have i1 : ∀ {a b : List Int}, a.map NestedKey.num = b.map NestedKey.num → a = b := fun {a} => by
      induction a with
      | nil => intro b e; cases b with
        | nil => rfl
        | cons _ _ => cases e
      | cons x a ih => intro b e; cases b with
        | nil => cases e
        | cons y b =>
          injection e with e1 e2
          injection e1 with e1
          rw [e1, ih e2]
    exact Prod.ext h1 (Prod.ext h2 (i1 h3))
  dep r := by
    simp [NestedKey.depth, NestedKey.depthAll, depth_nums]
  nes {h u a as} r := by
    cases r with
    | tuple h1 h2 h3 h4 =>
      exact .tup h1 h2 h3 (rope_all h4)
end LK
/-! two tuples of tuples of ints compared -/
namespace LK
open PySem PySem.Spec PyProof.Rows L2
theorem hu64 {A : Around} {k : Nat} (hr : Room k A) : A.units + 64 < cLine := hr.units
theorem eqD {X : Cx} (K : PySem.W.Frag) (hu : X.A.units + 64 < cLine) (hK : X.K = K := by rfl) : OpR X (compareOp .Eq) (rEqD K) := hK ▸ op_eqD hu
theorem eqv_row (a b : List Int) : PyData.eqv (dTup a) (dTup b) = decide (a = b) := by
  show PyData.eqv (.tuple _) (.tuple _) = _
  rw [PyData.eqv, eqv_ints]
theorem eqv_rows : ∀ A B : List (List Int), PyData.eqvAll (A.map dTup) (B.map dTup) = decide (A = B)
  | [], [] => by simp [PyData.eqvAll]
  | [], _ :: _ => by simp [PyData.eqvAll]
  | _ :: _, [] => by simp [PyData.eqvAll]
  | a :: A, b :: B => by
    rw [List.map_cons, List.map_cons, PyData.eqvAll, eqv_row, eqv_rows A B]
    simp
theorem eqv_tups (A B : List (List Int)) : PyData.eqv (.tuple (A.map dTup)) (.tuple (B.map dTup)) = decide (A = B) := by
  rw [PyData.eqv, eqv_rows]
theorem eqD_rows {K : PySem.W.Frag} {H : Hp} {x y : V} {A B : List (List Int)} {Q : VK} (hx : Rp K H x (.tuple (A.map dTup))) (hy : Rp K H y (.tuple (B.map dTup))) (q : Q (.bl (decide (A = B))) H) : rEqD K x y H Q :=
  ⟨_, _, hx.dp, hy.dp, shaped_rows A, shaped_rows B, by rw [eqv_tups]; exact q⟩
end LK
/-! ropes as data: sorted, <, ==, in -/
namespace LK
open PySem PySem.Spec PyProof.Rows L2
def ropeRow (r : Rope) : List Int := r.1 :: r.2.1 :: r.2.2
theorem ropeRow_inj {r t : Rope} (h : ropeRow r = ropeRow t) : r = t := by
  obtain ⟨a, b, c⟩ := r
  obtain ⟨x, y, z⟩ := t
  injection h with h1 h
  injection h with h2 h3
  exact Prod.ext h1 (Prod.ext h2 h3)
theorem rope_lt (r t : Rope) : PySem.W.dataLt (dRope r) (dRope t) = decide (ropeRow r < ropeRow t) := by
  obtain ⟨a, b, c⟩ := r
  obtain ⟨x, y, z⟩ := t
  show PySem.W.dataLt (.tuple [.int a, .int b, dTup c]) (.tuple [.int x, .int y, dTup z]) = decide (a :: b :: c < x :: y :: z)
  have e0 : PyProof.Rows.lexLt PyProof.Rows.itemOrd (PySem.W.keyToksAll []) (PySem.W.keyToksAll []) = false := PyProof.Rows.lex_irrefl _
  have ez : PySem.W.dataLt (dTup c) (dTup z) = decide (c < z) := by
    show PySem.W.dataLt (.tuple (c.map .int)) (.tuple (z.map .int)) = _
    rw [PySem.W.dataLt_tuple]
    exact PySem.W.dataLt_ints c z
  rw [PySem.W.dataLt_tuple, PySem.W.dataLt_cons (by simp [PySem.W.alike]), PySem.W.dataLt_cons (by simp [PySem.W.alike]), PySem.W.dataLt_cons (alike_tups c z), e0, ez, PySem.W.dataLt_int, PySem.W.dataLt_int, eqv_row]
  simp only [PyData.eqv, beq_iff_eq]
  simp only [List.cons_lt_cons_iff]
  by_cases h1 : a = x
  · subst h1
    by_cases h2 : b = y
    · subst h2
      by_cases h3 : c = z
      · subst h3
        simp
      · simp [h3]
    · simp [h2]
  · simp [h1]
theorem alike_ropes (r t : Rope) : PySem.W.alike (dRope r) (dRope t) = true := by
  show PySem.W.alike (.tuple [.int r.1, .int r.2.1, dTup r.2.2]) (.tuple [.int t.1, .int t.2.1, dTup t.2.2]) = true
  simp [PySem.W.alike, PySem.W.alikeAll, alike_tups]
theorem depth_rope (r : Rope) : (dRope r).depth ≤ 2 := by
  have := depth_tup r.2.2
  show PyData.depth (.tuple [.int r.1, .int r.2.1, dTup r.2.2]) ≤ 2
  simp only [PyData.depth, PyData.depthAll]
  omega
theorem canLay_rope (r : Rope) : PyData.canLay0 (dRope r) = true := by
  show (PyData.canLay0 (.int r.1) && (PyData.canLay0 (.int r.2.1) && (PyData.canLay0 (dTup r.2.2) && true))) = true
  have := canLay_rows [r.2.2]
  have e : PyData.canLay0 (dTup r.2.2) = true := by
    have : (PyData.canLay0 (dTup r.2.2) && true) = true := this
    simpa using this
  rw [e]
  rfl
theorem shaped_rope (r : Rope) : SeqAt.shaped (dRope r) = true := by
  unfold SeqAt.shaped
  have := depth_rope r
  rw [canLay_rope, decide_eq_true (by omega)]
  rfl
theorem eqv_rope (r t : Rope) : PyData.eqv (dRope r) (dRope t) = decide (r = t) := by
  obtain ⟨a, b, c⟩ := r
  obtain ⟨x, y, z⟩ := t
  show PyData.eqv (.tuple [.int a, .int b, dTup c]) (.tuple [.int x, .int y, dTup z]) = _
  rw [PyData.eqv, PyData.eqvAll, PyData.eqvAll, PyData.eqvAll, PyData.eqvAll, eqv_row]
  simp only [PyData.eqv]
  by_cases h1 : a = x <;> by_cases h2 : b = y <;> by_cases h3 : c = z <;> simp [h1, h2, h3]
/-- r < t -/
def rLtRo (K : PySem.W.Frag) : R2 := fun x y H Q => ∃ r t : Rope, Rp K H x (dRope r) ∧ Rp K H y (dRope t) ∧ Q (.bl (decide (ropeRow r < ropeRow t))) H
theorem ltRo {X : Cx} (K : PySem.W.Frag) (hu : X.A.units + 65 < cLine) (hK : X.K = K := by rfl) : OpR X (compareOp .Lt) (rLtRo K) := by
  subst hK
  intro pn st σ H x y v u Q inv h1 h2 way
  obtain ⟨r, t, hr, ht, q⟩ := way
  obtain ⟨as, r1⟩ := Dp.reads inv _ x v hr.dp h1
  obtain ⟨bs, r2⟩ := Dp.reads inv _ y u ht.dp h2
  have d1 := depth_rope r
  refine PySem.W.lt_data r1 r2 (alike_ropes r t) (by intro e; cases e) (by omega) ⟨.bl _, H, inv, rfl, ?_⟩
  rw [rope_lt]
  exact q
/-- r == t -/
theorem eqRo {K : PySem.W.Frag} {H : Hp} {x y : V} {r t : Rope} {Q : VK} (hx : Rp K H x (dRope r)) (hy : Rp K H y (dRope t)) (q : Q (.bl (decide (r = t))) H) : rEqD K x y H Q :=
  ⟨_, _, hx.dp, hy.dp, shaped_rope r, shaped_rope t, by rw [eqv_rope]; exact q⟩
/-- sorted -/
def srtRopes (T : List Rope) : List Rope := T.mergeSort fun a b => decide (ropeRow a ≤ ropeRow b)
theorem dataLe_ropes {β : Type} (x : β → Rope) : PySem.W.dataLe false (fun b => dRope (x b)) = fun p q => decide (ropeRow (x p) ≤ ropeRow (x q)) := by
  funext p q
  show (!PySem.W.dataLt (dRope (x q)) (dRope (x p))) = _
  rw [rope_lt]
  by_cases c : ropeRow (x q) < ropeRow (x p)
  · rw [decide_eq_true c, decide_eq_false fun r => List.not_lt.mpr r c]
    rfl
  · rw [decide_eq_false c, decide_eq_true (List.not_lt.mp c)]
    rfl
def rSrtRo (K : PySem.W.Frag) : List V → Hp → VK → Prop := fun vs H Q => ∃ (a : Addr) (xs : List V) (T : List Rope), vs = [V.ref a] ∧ SqL K H a xs ∧ RpAll K H xs (T.map dRope) ∧
  ∀ (ys : List V) (p : Addr), ys.length = xs.length → RpAll K H ys ((srtRopes T).map dRope) → H p = none → Q (.ref p) (upd H p (.lst ys))
theorem srtRo {X : Cx} (K : PySem.W.Frag) (hu : X.A.units + 65 < cLine) (hK : X.K = K := by rfl) : CallR X (.builtin "sorted") (rSrtRo K) := by
  subst hK
  intro pins s σ H vs us Q I r h
  obtain ⟨a, xs, T, rfl, hs, hx, q⟩ := h
  obtain ⟨its, rv, hl, hz⟩ := I.list hs
  rw [Vals.ref1 r]
  obtain ⟨bs, e1, e2, hb⟩ := zippedD hx
  subst e1
  have each := vals_eachD rv
  have lb : bs.length = its.length := by
    have := rv.length
    rw [List.length_map] at this
    exact this
  refine PySem.W.sorted_data (R := fun v (b : V × Rope) => RelV b.1 v) (enc := fun b => dRope b.2) hl.isList each (each_readsD I each hb) (PySem.W.AllAlike.of fun b b' => alike_ropes _ _) (.inl fun d hd => ?_) (by rw [List.length_map] at hz; exact hz) (fun b m => ?_) fun out h1 h2 => ?_
  · obtain ⟨b, m, rfl⟩ := List.mem_map.mp hd
    exact ⟨_, _, rfl⟩
  · have := depth_rope b.2
    show X.A.units + 2 + (dRope b.2).depth < cLine
    omega
  · obtain ⟨ep, he⟩ := PyProof.Rows.sortedAll_at s.heap its out.toArray
    have p := List.mergeSort_perm bs (PySem.W.dataLe false fun b => dRope b.2)
    have ev := each_valsD h2
    have hb2 : ∀ b ∈ bs.mergeSort (PySem.W.dataLe false fun b => dRope b.2), Rp X.K H b.1 (dRope b.2) := fun b m => hb b (p.mem_iff.mp m)
    have es : (bs.mergeSort (PySem.W.dataLe false fun b => dRope b.2)).map (·.2) = srtRopes T := by
      rw [← e2]
      refine PySem.W.sort_maps (fun b : V × Rope => b.2) fun a ha b hb => ?_
      rw [dataLe_ropes (fun b : V × Rope => b.2)]
    have rr := rp_zipD hb2
    rw [es] at rr
    have hlen : ((bs.mergeSort (PySem.W.dataLe false fun b => dRope b.2)).map (·.1)).length = (bs.map (·.1)).length := by
      rw [List.length_map, List.length_map, p.length_eq]
    generalize (bs.mergeSort (PySem.W.dataLe false fun b => dRope b.2)).map (·.1) = ys at ev rr hlen
    refine ⟨.ref _, upd H (s.heap.objs.size + 1) (.lst ys), I.laid (t' := s.toks) (fun _ _ => PyProof.Rows.sortedAll_old) (Nat.le_succ _) ⟨by rw [hlen]; exact hz, out, ep, ev, he⟩, rfl, q _ _ hlen rr (I.hok.fresh (Nat.le_succ _))⟩
/-- strictly ascending ropes with the same members are the same -/
theorem ropes_ext {A B : List Rope} (h1 : A.Pairwise fun r t => ropeRow r < ropeRow t) (h2 : B.Pairwise fun r t => ropeRow r < ropeRow t) (h : ∀ r, r ∈ A ↔ r ∈ B) : A = B := by
  induction A generalizing B with
  | nil =>
    cases B with
    | nil => rfl
    | cons b B => exact absurd ((h b).mpr List.mem_cons_self) (by simp)
  | cons a A ih =>
    cases B with
    | nil => exact absurd ((h a).mp List.mem_cons_self) (by simp)
    | cons b B =>
      have p1 := List.pairwise_cons.mp h1
      have p2 := List.pairwise_cons.mp h2
      have e : a = b := by
        rcases List.mem_cons.mp ((h a).mp List.mem_cons_self) with e | m
        · exact e
        · rcases List.mem_cons.mp ((h b).mpr List.mem_cons_self) with e | m2
          · exact e.symm
          · exact absurd (p2.1 a m) (List.lt_asymm (p1.1 b m2))
      subst e
      rw [ih p1.2 p2.2 fun r => ?_]
      constructor
      · intro m
        rcases List.mem_cons.mp ((h r).mp (List.mem_cons_of_mem _ m)) with e | m2
        · subst e
          exact absurd (p1.1 r m) (List.lt_irrefl _)
        · exact m2
      · intro m
        rcases List.mem_cons.mp ((h r).mpr (List.mem_cons_of_mem _ m)) with e | m2
        · subst e
          exact absurd (p2.1 r m) (List.lt_irrefl _)
        · exact m2
theorem srtRopes_perm (T : List Rope) : (srtRopes T).Perm T := List.mergeSort_perm _ _
theorem srtRopes_mem {T : List Rope} {r : Rope} : r ∈ srtRopes T ↔ r ∈ T := (srtRopes_perm T).mem_iff
theorem srtRopes_pw {T : List Rope} (nd : T.Nodup) : (srtRopes T).Pairwise fun r t => ropeRow r < ropeRow t := by
  have h1 : (srtRopes T).Pairwise fun a b => decide (ropeRow a ≤ ropeRow b) = true := List.pairwise_mergeSort (fun a b c h1 h2 => by
    have h1 := of_decide_eq_true h1
    have h2 := of_decide_eq_true h2
    exact decide_eq_true (List.le_trans h1 h2)) (fun a b => by
    rcases List.le_total (ropeRow a) (ropeRow b) with z | z
    · rw [decide_eq_true z]; rfl
    · rw [decide_eq_true z, Bool.or_true]) T
  have h2 : (srtRopes T).Pairwise fun a b => a ≠ b := (srtRopes_perm T).nodup_iff.mpr nd
  refine List.Pairwise.imp (fun {a b} ⟨z1, z2⟩ => ?_) (h1.and h2)
  have z1 := of_decide_eq_true z1
  refine Classical.byContradiction fun n => z2 ?_
  exact ropeRow_inj (List.le_antisymm z1 (List.not_lt.mp n))
end LK
namespace LK
open PySem PySem.Spec PyProof.Rows L2
/-! ### lists of ints -/
def dLst (ns : List Int) : PyData := .list (ns.map .int)
def LstI (K : PySem.W.Frag) (H : Hp) (a : Addr) (ns : List Int) : Prop := SqL K H a (ns.map V.int) ∧ ns.length ≤ 1000
theorem LstI.rp {K : PySem.W.Frag} {H : Hp} {a : Addr} {ns : List Int} (h : LstI K H a ns) : Rp K H (.ref a) (dLst ns) := .lst h.1 (by rw [List.length_map]; exact h.2) (RpAll.ints ns)
theorem LstI.same {K : PySem.W.Frag} {H H' : Hp} {a : Addr} {ns : List Int} (e : Same H H') (h : LstI K H a ns) : LstI K H' a ns := ⟨e.seq h.1, h.2⟩
theorem Rp.lstI {K : PySem.W.Frag} {H : Hp} {v : V} {ns : List Int} (h : Rp K H v (dLst ns)) : ∃ a, v = .ref a ∧ LstI K H a ns := by
  generalize hd : dLst ns = d at h
  cases h with
  | @lst a xs ds s l r =>
    have e : ds = ns.map PyData.int := by
      unfold dLst at hd
      injection hd with hd
      exact hd.symm
    subst e
    have ex := r.ofInts
    subst ex
    exact ⟨a, rfl, s, by rw [List.length_map] at l; exact l⟩
  | _ => exact absurd hd (by simp [dLst])
theorem Rp.lstA {K : PySem.W.Frag} {H : Hp} {v : V} {ds : List PyData} (h : Rp K H v (.list ds)) : ∃ a xs, v = .ref a ∧ SqL K H a xs ∧ xs.length ≤ 1000 ∧ RpAll K H xs ds := by
  cases h with
  | lst s l r => exact ⟨_, _, rfl, s, l, r⟩
theorem Rp.tupA {K : PySem.W.Frag} {H : Hp} {v : V} {ds : List PyData} (h : Rp K H v (.tuple ds)) : ∃ a xs, v = .ref a ∧ SqT K H a xs ∧ xs.length ≤ 1000 ∧ RpAll K H xs ds := by
  cases h with
  | tup s l r => exact ⟨_, _, rfl, s, l, r⟩
theorem RpAll.rowL {K : PySem.W.Frag} {H : Hp} {xs : List V} {rows : List (List Int)} {i : Nat} {x : V} (r : RpAll K H xs (rows.map dLst)) (h : xs[i]? = some x) : ∃ ns a, rows[i]? = some ns ∧ x = .ref a ∧ LstI K H a ns := by
  obtain ⟨d, hd, rd⟩ := r.get h
  rw [List.getElem?_map] at hd
  cases e : rows[i]? with
  | none => rw [e] at hd; cases hd
  | some ns =>
    rw [e] at hd
    have ed := (Option.some.inj hd).symm
    subst ed
    obtain ⟨a, rfl, t⟩ := rd.lstI
    exact ⟨ns, a, rfl, rfl, t⟩
end LK
/-! what lays data anew, told by the data alone; list + list however tracked -/
namespace LK
open PySem PySem.Spec PyProof.Rows L2
def rCatL (K : PySem.W.Frag) : R2 := fun x y H Q => ∃ a b xs ys, x = .ref a ∧ y = .ref b ∧ SqL K H a xs ∧ SqL K H b ys ∧ xs.length + ys.length ≤ 2000 ∧ ∀ p, H p = none → Q (.ref p) (upd H p (.lst (xs ++ ys)))
theorem catL {X : Cx} (K : PySem.W.Frag) (hK : X.K = K := by rfl) : OpR X (binaryOp .Add) (rCatL K) := by
  subst hK
  intro pins s σ H x y v u Q I rx ry h
  obtain ⟨a, b, xs, ys, rfl, rfl, ha, hb, hz, q⟩ := h
  cases rx
  cases ry
  obtain ⟨its, r, p, z⟩ := I.list ha
  obtain ⟨its2, r2, p2, z2⟩ := I.list hb
  obtain ⟨⟨cls, dd, data, sl⟩, ho, hc, n, hd⟩ := id p.isList
  obtain ⟨⟨cls2, dd2, data2, sl2⟩, ho2, hc2, n2, hd2⟩ := id p2.isList
  simp only at hc hd hc2 hd2
  subst hc hd hc2 hd2
  have l1 := r.length
  have l2 := r2.length
  have hs : (2000 : Nat) ≤ sizeLine := by decide
  have ea : its.toArray ++ its2.toArray = (its ++ its2).toArray := by simp
  refine concat_meets ⟨_, ho, rfl⟩ ⟨_, ho2, rfl⟩ noFill_list_add seq_list_add PySem.F.slot_list_add PySem.F.entry_list_add (PySem.F.args_list_add_2 _ _) (list_addW a b its.toArray its2.toArray n n2 dd dd2 sl sl2 (by rw [List.size_toArray, List.size_toArray]; omega)) ⟨ho, ho2, ?_⟩
  rw [ea]
  exact ⟨.ref _, _, I.lnew (t' := s.toks) (r.append r2) (by rw [List.length_append]; omega), rfl, q _ I.fresh⟩

/-- t yields the data d, and lays only what is new; the law's state may be drawn from -/
def Yld (K : PySem.W.Frag) (S p : Addr) (H0 : Hp) (σ : L2.St) (t : TE) (d : PyData) : Prop := ∀ H (Q : VK), Mv S p H0 H → (∀ v H', Mv S p H H' → Rp K (hide S H') v d → Q v H') → t σ H Q
def YldA (K : PySem.W.Frag) (S p : Addr) (H0 : Hp) (σ : L2.St) (t : TA) (ds : List PyData) : Prop := ∀ H Q, Mv S p H0 H → (∀ vs H', Mv S p H H' → RpAll K (hide S H') vs ds → Q vs H') → t σ H Q
section
variable {K : PySem.W.Frag} {S p : Addr} {H0 : Hp} {σ : L2.St} {t ta tb : TE} {tt : TA} {d e : PyData} {ds : List PyData}
theorem Yld.use {Q : VK} {H : Hp} (y : Yld K S p H σ t d) (st : StOk H S p) (k : ∀ v H', Mv S p H H' → Rp K (hide S H') v d → Q v H') : t σ H Q := y H Q (Mv.refl st) k
theorem Yld.at {H1 : Hp} (y : Yld K S p H0 σ t d) (m : Mv S p H0 H1) : Yld K S p H1 σ t d := fun H Q m2 k => y H Q (m.trans m2) k
theorem y_int {i : Int} : Yld K S p H0 σ (tC (.int i)) (.int i) := fun H Q m k => k _ _ (Mv.refl m.ok) (.int i)
theorem y_bl {b : Bool} : Yld K S p H0 σ (tC (.bl b)) (.bool b) := fun H Q m k => k _ _ (Mv.refl m.ok) (.bl b)
theorem y_non : Yld K S p H0 σ (tC .non) .none := fun H Q m k => k _ _ (Mv.refl m.ok) .non
theorem y_str {x : Str} : Yld K S p H0 σ (tC (.str x)) (.str x) := fun H Q m k => k _ _ (Mv.refl m.ok) (.str x)
theorem y_neg {i : Int} (y : Yld K S p H0 σ t (.int i)) : Yld K S p H0 σ (tUn (rU fun i => .int (-i)) t) (.int (-i)) := fun H Q m k =>
  y H _ m fun v H' m' r => by
    cases r
    exact ⟨i, rfl, k _ _ m' (.int _)⟩
theorem y_var {i : Nat} {v : V} (h : σ[i]? = some (some v)) (r : Rp K (hide S H0) v d) : Yld K S p H0 σ (tVar i) d := fun H Q m k => ⟨v, h, k _ _ (Mv.refl m.ok) (m.rp r)⟩
theorem y_add {i j : Int} (ya : Yld K S p H0 σ ta (.int i)) (yb : Yld K S p H0 σ tb (.int j)) : Yld K S p H0 σ (tOp (rI0 fun i j => .int (i + j)) ta tb) (.int (i + j)) := fun H Q m k =>
  ya H _ m fun v H' m' r => by
    cases r
    refine yb H' _ (m.trans m') fun v2 H2 m2 r2 => ?_
    cases r2
    exact ⟨i, j, rfl, rfl, k _ _ (m'.trans m2) (.int _)⟩
theorem y_sub {i j : Int} (ya : Yld K S p H0 σ ta (.int i)) (yb : Yld K S p H0 σ tb (.int j)) : Yld K S p H0 σ (tOp (rI0 fun i j => .int (i - j)) ta tb) (.int (i - j)) := fun H Q m k =>
  ya H _ m fun v H' m' r => by
    cases r
    refine yb H' _ (m.trans m') fun v2 H2 m2 r2 => ?_
    cases r2
    exact ⟨i, j, rfl, rfl, k _ _ (m'.trans m2) (.int _)⟩
theorem ya_nil : YldA K S p H0 σ tNil [] := fun H Q m k => k _ _ (Mv.refl m.ok) .nil
theorem ya_cons (y : Yld K S p H0 σ t d) (ys : YldA K S p H0 σ tt ds) : YldA K S p H0 σ (tCons t tt) (d :: ds) := fun H Q m k =>
  y H _ m fun v H' m' r => ys H' _ (m.trans m') fun vs H2 m2 r2 => k _ _ (m'.trans m2) (.cons (m2.rp r) r2)
theorem rp_tupNew {H : Hp} {q : Addr} {xs : List V} (hS : q ≠ S) (r : RpAll K (hide S H) xs ds) (hq : H q = none) (hz : xs.length ≤ 1000) : Rp K (hide S (upd H q (.tup xs))) (.ref q) (.tuple ds) :=
  .tup (SqT.of (by rw [hide_ne hS, upd_same])) hz (r.same (hide_mono (same_upd hq)))
theorem rp_lstNew {H : Hp} {q : Addr} {xs : List V} (hS : q ≠ S) (r : RpAll K (hide S H) xs ds) (hq : H q = none) (hz : xs.length ≤ 1000) : Rp K (hide S (upd H q (.lst xs))) (.ref q) (.list ds) :=
  .lst (SqL.of (by rw [hide_ne hS, upd_same])) hz (r.same (hide_mono (same_upd hq)))
theorem le_line {n : Nat} (h : n ≤ 1000) : n ≤ sizeLine := Nat.le_of_lt (small1000 h)
theorem y_tup (y : YldA K S p H0 σ tt ds) (hz : ds.length ≤ 1000 := by exact Nat.le_of_ble_eq_true rfl) : Yld K S p H0 σ (tTup tt) (.tuple ds) := fun H Q m k =>
  y H _ m fun vs H' m' r => by
    have hl : vs.length ≤ 1000 := by rw [r.length]; exact hz
    refine ⟨le_line hl, fun q hq => ?_⟩
    exact k _ _ (m'.then (same_upd hq)) (rp_tupNew (free_ne m'.ok hq) r hq hl)
theorem y_lst (y : YldA K S p H0 σ tt ds) (hz : ds.length ≤ 1000 := by exact Nat.le_of_ble_eq_true rfl) : Yld K S p H0 σ (tLst tt) (.list ds) := fun H Q m k =>
  y H _ m fun vs H' m' r => by
    have hl : vs.length ≤ 1000 := by rw [r.length]; exact hz
    refine ⟨le_line hl, fun q hq => ?_⟩
    exact k _ _ (m'.then (same_upd hq)) (rp_lstNew (free_ne m'.ok hq) r hq hl)
theorem rgV_ints (a b : Int) : rgV a b = ((List.range (b - a).toNat).map fun i => a + ((i : Nat) : Int)).map V.int := by
  unfold rgV
  rw [List.map_map]
  rfl
def rgD (a b : Int) : List PyData := (List.range (b - a).toNat).map fun i => PyData.int (a + ((i : Nat) : Int))
theorem rgD_length (a b : Int) : (rgD a b).length = (b - a).toNat := by
  unfold rgD
  rw [List.length_map, List.length_range]
theorem rgV_rp {H : Hp} (a b : Int) : RpAll K H (rgV a b) (rgD a b) := by
  unfold rgV rgD
  generalize List.range (b - a).toNat = l
  induction l with
  | nil => exact .nil
  | cons x l ih => exact .cons (.int _) ih
theorem y_rg1L {b : Int} (y : Yld K S p H0 σ t (.int b)) (h : 0 ≤ b ∧ b ≤ 1000) : Yld K S p H0 σ (tLstRg (tRg1 t)) (.list (rgD 0 b)) := fun H Q m k =>
  y H _ m fun v H' m' r => by
    cases r
    refine ⟨b, rfl, .of_le (by omega) (by omega) (by omega) (by omega), fun q hq => ?_⟩
    exact k _ _ (m'.then (same_upd hq)) (rp_lstNew (free_ne m'.ok hq) (rgV_rp _ _) hq (by rw [rgV_length]; omega))
theorem y_rg1T {b : Int} (y : Yld K S p H0 σ t (.int b)) (h : 0 ≤ b ∧ b ≤ 1000) : Yld K S p H0 σ (tTupRg (tRg1 t)) (.tuple (rgD 0 b)) := fun H Q m k =>
  y H _ m fun v H' m' r => by
    cases r
    refine ⟨b, rfl, .of_le (by omega) (by omega) (by omega) (by omega), fun q hq => ?_⟩
    exact k _ _ (m'.then (same_upd hq)) (rp_tupNew (free_ne m'.ok hq) (rgV_rp _ _) hq (by rw [rgV_length]; omega))
theorem y_rg2T {a b : Int} (ya : Yld K S p H0 σ ta (.int a)) (yb : Yld K S p H0 σ tb (.int b)) (h : 0 ≤ a ∧ a ≤ 1000 ∧ 0 ≤ b ∧ b ≤ 1000) : Yld K S p H0 σ (tTupRg (tRg2 ta tb)) (.tuple (rgD a b)) := fun H Q m k =>
  ya H _ m fun v H' m' r => by
    cases r
    refine yb H' _ (m.trans m') fun v2 H2 m2 r2 => ?_
    cases r2
    refine ⟨a, b, rfl, rfl, .of_le (by omega) (by omega) (by omega) (by omega), fun q hq => ?_⟩
    exact k _ _ ((m'.trans m2).then (same_upd hq)) (rp_tupNew (free_ne m2.ok hq) (rgV_rp _ _) hq (by rw [rgV_length]; omega))
theorem y_catL {ds es : List PyData} (ya : Yld K S p H0 σ ta (.list ds)) (yb : Yld K S p H0 σ tb (.list es)) (h : ds.length + es.length ≤ 1000) : Yld K S p H0 σ (tOp (rCatL K) ta tb) (.list (ds ++ es)) := fun H Q m k =>
  ya H _ m fun v H' m' r => yb H' _ (m.trans m') fun v2 H2 m2 r2 => by
    obtain ⟨a, xs, rfl, ha, la, ra⟩ := (m2.rp r).lstA
    obtain ⟨b, ys, rfl, hb, lb, rb⟩ := r2.lstA
    have e1 := ra.length
    have e2 := rb.length
    refine ⟨a, b, xs, ys, rfl, rfl, (hide_same _ _).seq ha, (hide_same _ _).seq hb, by omega, fun q hq => ?_⟩
    exact k _ _ ((m'.trans m2).then (same_upd hq)) (rp_lstNew (free_ne m2.ok hq) (ra.app rb) hq (by rw [List.length_append]; omega))
theorem Rp.tupA' {H : Hp} {v : V} (h : Rp K H v (.tuple ds)) : ∃ a xs, v = .ref a ∧ SqT K H a xs ∧ xs.length ≤ 1000 ∧ RpAll K H xs ds := h.tupA
theorem y_catT {ds es : List PyData} (ya : Yld K S p H0 σ ta (.tuple ds)) (yb : Yld K S p H0 σ tb (.tuple es)) (h : ds.length + es.length ≤ 1000) : Yld K S p H0 σ (tOp (rCatA K) ta tb) (.tuple (ds ++ es)) := fun H Q m k =>
  ya H _ m fun v H' m' r => yb H' _ (m.trans m') fun v2 H2 m2 r2 => by
    obtain ⟨a, xs, rfl, ha, la, ra⟩ := (m2.rp r).tupA
    obtain ⟨b, ys, rfl, hb, lb, rb⟩ := r2.tupA
    have e1 := ra.length
    have e2 := rb.length
    obtain ⟨zs, hS⟩ := m2.ok.atS
    refine catA_use (seqT (hide_same _ _) ha) (seqT (hide_same _ _) hb) (by omega) fun q H3 s3 hq => ?_
    have m3 := (m'.trans m2).then s3
    obtain ⟨zs3, hS3⟩ := m3.ok.atS
    exact k _ _ m3 (.tup (seqT_hide hS3 hq) (by rw [List.length_append]; omega) ((ra.app rb).same (hide_mono s3)))
theorem y_repT {ds : List PyData} {n : Int} (ya : Yld K S p H0 σ ta (.tuple ds)) (yb : Yld K S p H0 σ tb (.int n)) (h : ds.length = 1 ∧ 2 ≤ n ∧ n ≤ 1000) : Yld K S p H0 σ (tOp (rRepT K) ta tb) (.tuple (List.replicate n.toNat ds).flatten) := fun H Q m k =>
  ya H _ m fun v H' m' r => yb H' _ (m.trans m') fun v2 H2 m2 r2 => by
    cases r2
    obtain ⟨a, xs, rfl, ha, la, ra⟩ := (m2.rp r).tupA
    have e1 := ra.length
    have rep : ∀ j : Nat, RpAll K (hide S H2) (List.replicate j xs).flatten (List.replicate j ds).flatten := fun j => by
      induction j with
      | zero => exact .nil
      | succ j ih =>
        rw [List.replicate_succ, List.replicate_succ, List.flatten_cons, List.flatten_cons]
        exact ra.app ih
    have hl : ∀ j : Nat, (List.replicate j xs).flatten.length = j * xs.length := fun j => by simp
    refine ⟨a, n, xs, rfl, rfl, seqT (hide_same _ _) ha, (fun e => by rw [e] at e1; simp at e1; omega), h.2.1, h.2.2, la, fun q hq => ?_⟩
    refine k _ _ ((m'.trans m2).then (same_upd hq)) (rp_tupNew (free_ne m2.ok hq) (rep _) hq ?_)
    rw [hl, e1, h.1]
    omega
theorem y_len {ds : List PyData} (y : Yld K S p H0 σ t (.list ds)) : Yld K S p H0 σ (tCB (rLenS K) (tCons t tNil)) (.int (ds.length : Nat)) := fun H Q m k =>
  y H _ m fun v H' m' r => by
    obtain ⟨a, xs, rfl, ha, la, ra⟩ := r.lstA
    have e1 := ra.length
    refine ⟨a, xs, rfl, .inl ((hide_same _ _).seq ha), ?_⟩
    rw [e1]
    exact k _ _ m' (.int _)
theorem y_lenT {ds : List PyData} (y : Yld K S p H0 σ t (.tuple ds)) : Yld K S p H0 σ (tCB (rLenS K) (tCons t tNil)) (.int (ds.length : Nat)) := fun H Q m k =>
  y H _ m fun v H' m' r => by
    obtain ⟨a, xs, rfl, ha, la, ra⟩ := r.tupA
    have e1 := ra.length
    refine ⟨a, xs, rfl, .inr (seqT (hide_same _ _) ha), ?_⟩
    rw [e1]
    exact k _ _ m' (.int _)
theorem y_ixT {ds : List PyData} {j : Nat} (ya : Yld K S p H0 σ ta (.tuple ds)) (yb : Yld K S p H0 σ tb (.int (j : Nat))) (h : ds[j]? = some d) : Yld K S p H0 σ (tOp (rIxT K) ta tb) d := fun H Q m k =>
  ya H _ m fun v H' m' r => yb H' _ (m.trans m') fun v2 H2 m2 r2 => by
    cases r2
    obtain ⟨a, xs, rfl, ha, la, ra⟩ := (m2.rp r).tupA
    obtain ⟨x, hx, rx⟩ := ra.getD h
    exact ⟨a, xs, (j : Nat), x, rfl, rfl, seqT (hide_same _ _) ha, at_of (j := j) rfl hx, k _ _ (m'.trans m2) rx⟩
theorem y_ixL {ds : List PyData} {j : Nat} (ya : Yld K S p H0 σ ta (.list ds)) (yb : Yld K S p H0 σ tb (.int (j : Nat))) (h : ds[j]? = some d) : Yld K S p H0 σ (tOp (rIxL K) ta tb) d := fun H Q m k =>
  ya H _ m fun v H' m' r => yb H' _ (m.trans m') fun v2 H2 m2 r2 => by
    cases r2
    obtain ⟨a, xs, rfl, ha, la, ra⟩ := (m2.rp r).lstA
    obtain ⟨x, hx, rx⟩ := ra.getD h
    exact ⟨a, xs, (j : Nat), x, rfl, rfl, (hide_same _ _).seq ha, at_of (j := j) rfl hx, k _ _ (m'.trans m2) rx⟩
theorem y_useL {Q : VK} {H : Hp} (y : Yld K S p H σ (tLst tt) d) (st : StOk H S p) (k : ∀ v H', Mv S p H H' → Rp K (hide S H') v d → Q v H') : tLst tt σ H Q := y H Q (Mv.refl st) k
theorem y_useT {Q : VK} {H : Hp} (y : Yld K S p H σ (tTup tt) d) (st : StOk H S p) (k : ∀ v H', Mv S p H H' → Rp K (hide S H') v d → Q v H') : tTup tt σ H Q := y H Q (Mv.refl st) k
theorem y_useO {r : R2} {Q : VK} {H : Hp} (y : Yld K S p H σ (tOp r ta tb) d) (st : StOk H S p) (k : ∀ v H', Mv S p H H' → Rp K (hide S H') v d → Q v H') : tOp r ta tb σ H Q := y H Q (Mv.refl st) k
/-- a list of data, and one of them drawn -/
theorem y_draw {ds : List PyData} {Q : VK} {H : Hp} (ya : Yld K S p H σ ta (.list ds)) (st : StOk H S p)
    (hb : ∀ H1 (Q1 : VK), Mv S p H H1 → (∀ (r : Int) H2, 0 ≤ r → r < (ds.length : Nat) → Mv S p H1 H2 → Q1 (.int r) H2) → tb σ H1 Q1)
    (k : ∀ v d H', d ∈ ds → Mv S p H H' → Rp K (hide S H') v d → Q v H') : tOp (rIxL K) ta tb σ H Q :=
  ya H _ (Mv.refl st) fun v H' m' r => hb H' _ m' fun z H2 h0 h1 m2 => by
    obtain ⟨a, xs, rfl, ha, la, ra⟩ := (m2.rp r).lstA
    have e1 := ra.length
    have hj : z.toNat < ds.length := by omega
    obtain ⟨x, hx, rx⟩ := ra.getD (List.getElem?_eq_getElem hj)
    exact ⟨a, xs, z, x, rfl, rfl, (hide_same _ _).seq ha, at_of (j := z.toNat) (by omega) hx, k _ _ _ (List.getElem_mem hj) (m'.trans m2) rx⟩
end
end LK
namespace LK
open PySem PySem.Spec PyProof.Rows L2
def dRowsL (T : List (List Int)) : PyData := .list (T.map dTup)
def dRopes (R : List Rope) : PyData := .tuple (R.map dRope)
def lotG (L : List (List Int)) (x : Int) : List (List Int) := L ++ L.map fun t => t ++ [x]
/-- all lots of l, as the program tells them -/
def lotsF (l : List Int) : List (List Int) := l.foldl lotG [[]]
theorem lotsF_snoc (l : List Int) (x : Int) : lotsF (l ++ [x]) = lotG (lotsF l) x := by
  unfold lotsF
  rw [List.foldl_append]
  rfl
theorem lotsF_len (l : List Int) : (lotsF l).length = 2 ^ l.length := by
  have : ∀ k (l : List Int), l.length = k → (lotsF l).length = 2 ^ k := by
    intro k
    induction k with
    | zero => intro l h; rw [List.length_eq_zero_iff.mp h]; rfl
    | succ k ih =>
      intro l h
      have ne : l ≠ [] := fun e => by rw [e] at h; cases h
      rw [← List.dropLast_concat_getLast ne, lotsF_snoc]
      unfold lotG
      rw [List.length_append, List.length_map, ih l.dropLast (by rw [List.length_dropLast]; omega), Nat.pow_succ]
      omega
  exact this _ l rfl
theorem lotsF_sub {l t : List Int} : t ∈ lotsF l ↔ t.Sublist l := by
  have : ∀ k (l t : List Int), l.length = k → (t ∈ lotsF l ↔ t.Sublist l) := by
    intro k
    induction k with
    | zero =>
      intro l t h
      rw [List.length_eq_zero_iff.mp h]
      show t ∈ [[]] ↔ _
      rw [List.mem_singleton, List.sublist_nil]
    | succ k ih =>
      intro l t h
      have ne : l ≠ [] := fun e => by rw [e] at h; cases h
      have il := fun t => ih l.dropLast t (by rw [List.length_dropLast]; omega)
      rw [← List.dropLast_concat_getLast ne, lotsF_snoc]
      unfold lotG
      rw [List.mem_append, il, List.mem_map]
      constructor
      · rintro (h | ⟨s, hs, rfl⟩)
        · exact h.trans (List.sublist_append_left _ _)
        · exact ((il s).mp hs).append (.refl _)
      · intro h
        obtain ⟨s, u, rfl, h1, h2⟩ := List.sublist_append_iff.mp h
        rcases List.sublist_cons_iff.mp h2 with h3 | ⟨r, rfl, h3⟩
        · rw [List.sublist_nil.mp h3, List.append_nil]
          exact .inl h1
        · rw [List.sublist_nil.mp h3]
          exact .inr ⟨s, (il s).mpr h1, rfl⟩
  exact this _ l t rfl
theorem lotsF_word {l t : List Int} (h : t ∈ lotsF l) : t.length ≤ l.length := (lotsF_sub.mp h).length_le
def spLots (K : PySem.W.Frag) : Sp := fun vs H Q _ => ∃ (a : Addr) (l : List Int), vs = [.ref a] ∧ TupI K H a l ∧ l.length ≤ 8 ∧ ∀ p gs H', Same H H' → H p = none → H' p = some (.lst gs) → RpAll K H' gs ((lotsF l).map dTup) → Q (.ref p) H'
section
variable {P : Program} {w : World} {K : PySem.W.Frag} {mg : Str → Option Value} {base : Heap} {ad : Nat → Addr} {fd : Nat → FuncData}
theorem ok_lots_of (T : Txt K mg ad fd) : FnOk P w K mg base CX0 1 (ad 34) (fd 34) ["things"] (spLots K) := by
  refine T.F_lots_of.ok sc_lots_of (fun vs H Q E h => ?_) (fun cdv A outer s H vs Q E hr h => ?_)
  · obtain ⟨a, l, rfl, _⟩ := h
    rfl
  · obtain ⟨a, l, rfl, ha, l8, k⟩ := h
    refine ⟨_, (pss_cons (ps_set (i := 1) sc_lots_of.nd rfl (Or.inl rfl) (pe_lst (pa_cons (pe_tup pa_nil) pa_nil)))
  (pss_cons (ps_for PassesOwn.never rfl (piT K (pv 0)) (pg_name (i := 2) (x := "thing") sc_lots_of.nd rfl (Or.inr rfl))
  (pss_one (ps_set (i := 1) sc_lots_of.nd rfl (Or.inl rfl) (pe_op (catL K) (pv 1) (pe_lc (own := [("lot", 3)]) (g := gName 3) rfl sc_lots_of.nd (piL K (pv 1)) (blkOk_by (N := ["things", "lots", "thing", "lot"]) (sc := defScope s_lots_of) (by decide +kernel)) (fun _ _ _ _ _ => (pg_name (i := 3) (x := "lot") sc_lots_of.nd rfl (Or.inl rfl))) (fun _ _ _ _ _ => pts_nil) (fun _ _ _ _ _ => (pe_op (catA K) (pv 3) (pe_tup (pa_cons (pv 2) pa_nil)))))))))
  (pss_one (ps_ret (pv 1))))), ?_⟩
    refine ⟨(by show 0 ≤ sizeLine; decide), fun q hq => ⟨(by show 1 ≤ sizeLine; decide), fun D hD => ?_⟩⟩
    have s02 := (same_upd (o := .tup []) hq).trans (same_upd (o := .lst [V.ref q]) hD)
    have r2 : RpAll K (upd (upd H q (.tup [])) D (.lst [V.ref q])) [V.ref q] ((lotsF (l.take 0)).map dTup) := .one (TupI.rp (ns := []) ⟨SqT.of ((same_upd hD) _ _ upd_same), by show 0 ≤ 1000; decide⟩)
    have hDD : upd (upd H q (.tup [])) D (.lst [V.ref q]) D = some (.lst [V.ref q]) := upd_same
    have hD0 : H D = none := (same_upd hq).free hD
    generalize upd (upd H q (.tup [])) D (.lst [V.ref q]) = H2 at s02 r2 hDD ⊢
    have bound : ∀ i, (lotsF (l.take i)).length ≤ 256 := fun i => by
      rw [lotsF_len]
      exact Nat.le_trans (Nat.pow_le_pow_right (by decide) (show (l.take i).length ≤ 8 by rw [List.length_take]; omega)) (by decide)
    refine ⟨_, rfl, a, rfl, ⟨_, seqT s02 ha.1⟩, for_tup (K := K) (a := a) (xs := l.map V.int) (fun i σ H3 => ∃ (G : Addr) (v2 : Option V), σ = [some (.ref a), some (.ref G), v2, none] ∧ Same H H3 ∧ H G = none ∧ ∃ gs, H3 G = some (.lst gs) ∧ RpAll K H3 gs ((lotsF (l.take i)).map dTup))
      ⟨D, none, rfl, s02, hD0, _, hDD, r2⟩ (fun i σ H3 _ ⟨_, _, _, s3, _⟩ => seqT s3 ha.1) (fun i x σ H3 hi ⟨G, v2, e3, s3, hG0, gs, hGl, rg⟩ => ?_) (fun σ H3 ⟨G, v2, e3, s3, hG0, gs, hGl, rg⟩ => ?_)⟩
    · subst e3
      obtain ⟨y, hy, rfl⟩ := intAt hi
      have eS : l.take (i + 1) = l.take i ++ [y] := by rw [List.take_succ, hy]; rfl
      have b1 := bound i
      generalize hW : lotsF (l.take i) = W at rg b1
      have ww : ∀ t ∈ W, t.length ≤ 8 := fun t ht => by
        rw [← hW] at ht
        have := lotsF_word ht
        rw [List.length_take] at this
        omega
      have hG : SqL K H3 G gs := SqL.of hGl
      have lgs : gs.length = W.length := by rw [rg.length, List.length_map]
      have lg : gs.length ≤ 1000 := by omega
      refine ⟨_, rfl, _, rfl, G, rfl, ⟨_, hG⟩, fun E hE => ?_⟩
      refine lcL (K := K) (xs := gs) (fun _ => true) (fun j => dTup (W.getD j [] ++ [y])) hE hG lg (fun _ _ _ => noL_dTup _) (fun j x H4 hj s4 Q1 Q2 k1 k2 => ?_) (fun ys H4 s4 hy ry => ?_)
      · obtain ⟨wd, c, hw, rfl, tc⟩ := rg.row hj
        have ew : W.getD j [] = wd := by rw [List.getD_eq_getElem?_getD, hw]; rfl
        rw [ew] at k1
        have ww1 := ww wd (List.mem_of_getElem? hw)
        have tc4 := tc.same s4
        refine ⟨rfl, _, rfl, _, rfl, (by show 1 ≤ sizeLine; decide), fun q1 hq1 => ?_⟩
        have s6 := same_upd (o := .tup [V.int y]) hq1
        refine catA_use (seqT s6 tc4.1) (SqT.of upd_same) (by rw [List.length_map]; show _ + 1 ≤ 2000; omega) fun q2 H7 s7 hq2 => ?_
        refine k1 rfl _ _ (s6.trans s7) (TupI.rp ⟨?_, by rw [List.length_append]; show _ + 1 ≤ 1000; omega⟩)
        rw [List.map_append]
        exact hq2
      · rw [filter_true, lgs, map_range (fun t : List Int => dTup (t ++ [y])) [] W] at ry
        have ry2 : RpAll K H4 ys ((W.map fun t => t ++ [y]).map dTup) := by
          rw [List.map_map]
          exact ry
        have ly : ys.length = W.length := by rw [ry2.length, List.length_map, List.length_map]
        refine ⟨G, E, _, _, rfl, rfl, s4.seq hG, SqL.of hy, by omega, fun D2 hD2 => ?_⟩
        have s5 := same_upd (o := .lst (gs ++ ys)) hD2
        refine ⟨D2, some (.int y), rfl, s3.trans (s4.trans s5), (s3.trans s4).free hD2, _, upd_same, ?_⟩
        · rw [eS, lotsF_snoc, hW]
          show RpAll K _ (gs ++ ys) ((W ++ _).map dTup)
          rw [List.map_append]
          exact (rg.same (s4.trans s5)).app (ry2.same s5)
    · subst e3
      rw [List.length_map, List.take_length] at rg
      exact ⟨_, rfl, k _ _ _ s3 hG0 hGl rg⟩
end
end LK
/-! ties and what is between, plainly -/
namespace LK
open PySem PySem.Spec PyProof.Rows L2
theorem tiesL_in {n : Int} {rows : List (List Int)} {t : List Int} (h : t ∈ tiesL n rows) : ∃ lo hi : Nat, t = [(lo : Int), (hi : Int)] ∧ lo < hi ∧ (hi : Int) < n ∧ tiedB rows lo hi = true := by
  unfold tiesL at h
  obtain ⟨x, hx, h2⟩ := List.mem_flatMap.mp h
  unfold tiesAt nearN at h2
  obtain ⟨y, hy, rfl⟩ := List.mem_map.mp h2
  obtain ⟨h3, h4⟩ := List.mem_filter.mp hy
  obtain ⟨h5, h6⟩ := List.mem_filter.mp h3
  have := List.mem_range.mp h5
  simp only [decide_eq_true_eq] at h4 h6
  exact ⟨x, y, rfl, by omega, by omega, h6.2⟩
theorem in_tiesL {n : Int} {rows : List (List Int)} {lo hi : Nat} (h1 : lo < hi) (h2 : (hi : Int) < n) (h3 : tiedB rows lo hi = true) : [(lo : Int), (hi : Int)] ∈ tiesL n rows := by
  unfold tiesL
  refine List.mem_flatMap.mpr ⟨lo, List.mem_range.mpr (by omega), ?_⟩
  unfold tiesAt nearN
  refine List.mem_map.mpr ⟨hi, List.mem_filter.mpr ⟨List.mem_filter.mpr ⟨List.mem_range.mpr (by omega), ?_⟩, ?_⟩, rfl⟩
  · simp only [decide_eq_true_eq]
    exact ⟨by omega, h3⟩
  · simp only [decide_eq_true_eq]
    omega
theorem tri10 : ∀ n : Fin 11, ((List.range n.val).map fun x => n.val - 1 - x).sum ≤ 45 := by decide +kernel
theorem tiesL_len10 {n : Int} (rows : List (List Int)) (h : n ≤ 10) : (tiesL n rows).length ≤ 45 := by
  unfold tiesL
  rw [List.length_flatMap]
  have h1 := sum_le (f := fun x => (tiesAt n rows x).length) (g := fun x => n.toNat - 1 - x) (List.range n.toNat) fun x _ => tiesAt_len n rows x
  exact Nat.le_trans h1 (tri10 ⟨n.toNat, by omega⟩)
theorem nodup_leG {α : Type} [DecidableEq α] : ∀ {l m : List α}, l.Nodup → l ⊆ m → l.length ≤ m.length
  | [], _, _, _ => Nat.zero_le _
  | a :: l, m, h, s => by
    obtain ⟨h1, h2⟩ := List.nodup_cons.mp h
    have hm : a ∈ m := s List.mem_cons_self
    have := nodup_leG (l := l) (m := m.erase a) h2 fun x hx => (List.mem_erase_of_ne (fun e : x = a => h1 (by rw [← e]; exact hx))).mpr (s (List.mem_cons_of_mem _ hx))
    rw [List.length_erase_of_mem hm] at this
    have : 0 < m.length := List.length_pos_of_mem hm
    rw [List.length_cons]
    omega
theorem isTie_in {n : Int} {rows : List (List Int)} {d : PyData} (h : isTie n rows d = true) : ∃ lo hi : Nat, d = dTup [(lo : Int), (hi : Int)] ∧ lo < hi ∧ (hi : Int) < n ∧ tiedB rows lo hi = true := by
  unfold isTie at h
  rw [Bool.and_eq_true, Bool.and_eq_true, decide_eq_true_eq] at h
  obtain ⟨⟨h1, h2⟩, h3⟩ := h
  unfold isLot at h1
  rw [Bool.and_eq_true] at h1
  have ed := areBelow_tup h1.1
  obtain ⟨a, b, e⟩ : ∃ a b, dInts d = [a, b] := by
    match hd : dInts d, h2 with
    | [a, b], _ => exact ⟨a, b, rfl⟩
  rw [e] at h1 h3 ed
  have hb : isBelow n (.int a) = true ∧ isBelow n (.int b) = true := by
    have := h1.1
    rw [ed] at this
    replace this : ([a, b].map PyData.int).all (isBelow n) = true := this
    simpa using this
  have h4 : a < b := by
    have := h1.2
    simpa [rising] using this
  have h5 : 0 ≤ a ∧ b < n := by
    have := hb.1
    have h6 := hb.2
    simp only [isBelow, decide_eq_true_eq] at this h6
    exact ⟨this.1, h6.2⟩
  refine ⟨a.toNat, b.toNat, ?_, by omega, by omega, ?_⟩
  · rw [ed, Int.toNat_of_nonneg h5.1, Int.toNat_of_nonneg (by omega)]
  · rw [Int.toNat_of_nonneg h5.1, Int.toNat_of_nonneg (by omega)]
    exact h3
theorem isTie_of {n : Int} {rows : List (List Int)} {lo hi : Nat} (h1 : lo < hi) (h2 : (hi : Int) < n) (h3 : tiedB rows lo hi = true) : isTie n rows (dTup [(lo : Int), (hi : Int)]) = true := by
  unfold isTie isLot
  rw [dInts_tup]
  have a1 : areBelow n (dTup [(lo : Int), (hi : Int)]) = true := by
    show ([(lo : Int), (hi : Int)].map PyData.int).all (isBelow n) = true
    simp [isBelow]
    omega
  have a2 : rising [(lo : Int), (hi : Int)] = true := by
    simp [rising]
    omega
  rw [a1, a2]
  exact h3
theorem btw_mem {n : Int} {rows : List (List Int)} {x y z : Int} : z ∈ natI (betweenN n rows x y) ↔ x < z ∧ z < y ∧ 0 ≤ z ∧ z < n ∧ tiedB rows x z = true ∧ tiedB rows y z = true := by
  unfold natI betweenN
  rw [List.mem_map]
  constructor
  · rintro ⟨m, hm, rfl⟩
    rw [List.mem_filter, List.mem_filter, List.mem_range, decide_eq_true_eq, Bool.and_eq_true, decide_eq_true_eq, decide_eq_true_eq] at hm
    obtain ⟨⟨h1, ⟨_, h2⟩, _, h3⟩, h4, h5⟩ := hm
    exact ⟨h4, h5, by omega, by omega, h2, h3⟩
  · rintro ⟨h1, h2, h3, h4, h5, h6⟩
    refine ⟨z.toNat, ?_, by omega⟩
    have e : ((z.toNat : Nat) : Int) = z := by omega
    rw [List.mem_filter, List.mem_filter, List.mem_range, decide_eq_true_eq, Bool.and_eq_true, decide_eq_true_eq, decide_eq_true_eq, e]
    exact ⟨⟨by omega, ⟨by omega, h5⟩, by omega, h6⟩, h1, h2⟩
theorem btw_pw (n : Int) (rows : List (List Int)) (x y : Int) : (natI (betweenN n rows x y)).Pairwise (· < ·) := by
  unfold natI betweenN
  exact List.Pairwise.map _ (R := fun a b => a < b) (fun a b h => by omega) (List.Pairwise.filter _ (List.Pairwise.filter _ List.pairwise_lt_range))
theorem btw_len8 {n : Int} {rows : List (List Int)} (h10 : n ≤ 10) {x y : Int} (hx : 0 ≤ x) (hy : y < n) : (natI (betweenN n rows x y)).length ≤ 8 := by
  have nd : (natI (betweenN n rows x y)).Nodup := (btw_pw n rows x y).imp fun h => by omega
  have := nodup_leG nd (m := (List.range 8).map fun i : Nat => (i : Int) + 1) fun z hz => by
    obtain ⟨h1, h2, h3, h4, _⟩ := btw_mem.mp hz
    refine List.mem_map.mpr ⟨(z - 1).toNat, List.mem_range.mpr (by omega), by omega⟩
  simpa using this
end LK
namespace LK
open PySem PySem.Spec PyProof.Rows L2
/-- what lies between -/
def btw (n : Int) (rows : List (List Int)) (x y : Int) : List Int := natI (betweenN n rows x y)
def ropesAt (n : Int) (rows : List (List Int)) (t : List Int) : List Rope := (lotsF (btw n rows (t.getD 0 0) (t.getD 1 0))).map fun a => (t.getD 0 0, t.getD 1 0, a)
def ropesAll (n : Int) (rows : List (List Int)) : List Rope := (tiesL n rows).flatMap (ropesAt n rows)
/-- all ropes of the book, ascending -/
def ropesL (n : Int) (rows : List (List Int)) : List Rope := srtRopes (ropesAll n rows)
theorem noL_rope (r : Rope) : noL (dRope r) = true := by
  show noLs [.int r.1, .int r.2.1, dTup r.2.2] = true
  have := noL_dTup r.2.2
  simp [noLs, noL, this]
theorem noLs_ropes : ∀ R : List Rope, noLs (R.map dRope) = true
  | [] => rfl
  | r :: R => by
    show (noL (dRope r) && noLs (R.map dRope)) = true
    rw [noL_rope, noLs_ropes R]
    rfl
structure BookR (n : Int) (rows : List (List Int)) : Prop where
  inn : RowsIn n rows
  n0 : 0 ≤ n
  n10 : n ≤ 10
  few : (ropesAll n rows).length ≤ 1000
theorem btw_len {n : Int} {rows : List (List Int)} (h10 : n ≤ 10) {x y : Int} (hx : 0 ≤ x) (hy : y < n) : (btw n rows x y).length ≤ 8 := btw_len8 h10 hx hy
def spRopes (K : PySem.W.Frag) : Sp := fun vs H Q _ => ∃ (v : V) (n : Int) (rows : List (List Int)), vs = [v] ∧ Rp K H v (bookD n rows) ∧ BookR n rows ∧ ∀ u H', Same H H' → Rp K H' u (dRopes (ropesL n rows)) → Q u H'
section
variable {P : Program} {w : World} {K : PySem.W.Frag} {mg : Str → Option Value} {base : Heap} {ad : Nat → Addr} {fd : Nat → FuncData}
theorem ok_ropes_of (T : Txt K mg ad fd) : FnOk P w K mg base CX0 4 (ad 35) (fd 35) ["book"] (spRopes K) := by
  refine T.F_ropes_of.ok sc_ropes_of (fun vs H Q E h => ?_) (fun cdv A outer s H vs Q E hr h => ?_)
  · obtain ⟨v, n, rows, rfl, _⟩ := h
    rfl
  · obtain ⟨v, n, rows, rfl, hv, bk, k⟩ := h
    refine ⟨_, (pss_cons (ps_set (i := 1) sc_ropes_of.nd rfl (Or.inr rfl) (pe_call (ok_near_masks T) (hr.mono (by decide)) rfl T.m_near_masks T.F_near_masks.kp (b_near_masks T) .nil pass0 (pa_cons (pv 0) pa_nil)))
  (pss_cons (ps_setLc2 (i := 2) (own := [("low", 4), ("high", 5), ("ahead", 3)]) (vs1 := [3]) (g := gTup K 2 (gCons (gName 4) (gCons (gName 5) gNil))) (g1 := gName 3) rfl sc_ropes_of.nd rfl rfl (sw_true rfl rfl rfl (by decide +kernel)) (piT K (pe_call (ok_ties_of T) (hr.mono (by decide)) rfl T.m_ties_of T.F_ties_of.kp (b_ties_of T) .nil pass0 (pa_cons (pv 0) pa_nil))) (blkOk_by (N := ["book", "near", "ropes", "ahead", "low", "high"]) (sc := defScope s_ropes_of) (by decide +kernel)) (by decide) (fun _ _ _ _ _ => (pgT K (n := 2) rfl (pgs_cons (pg_name (i := 4) (x := "low") sc_ropes_of.nd rfl (Or.inl rfl)) (pgs_cons (pg_name (i := 5) (x := "high") sc_ropes_of.nd rfl (Or.inl rfl)) pgs_nil)))) (fun _ _ _ _ _ => pts_nil) (fun _ _ _ _ _ => (piL K (pe_call (ok_lots_of T) (hr.mono (by decide)) rfl T.m_lots_of T.F_lots_of.kp (b_lots_of T) .nil pass0 (pa_cons (pe_call (ok_between_in T) (hr.mono (by decide)) rfl T.m_between_in T.F_between_in.kp (b_between_in T) .nil pass0 (pa_cons (pv 1) (pa_cons (pv 4) (pa_cons (pv 5) pa_nil)))) pa_nil)))) (fun _ _ _ _ _ => (pg_name (i := 3) (x := "ahead") sc_ropes_of.nd rfl (Or.inl rfl))) (fun _ _ _ _ _ => pts_nil) (fun _ _ _ _ _ => (pe_tup (pa_cons (pv 4) (pa_cons (pv 5) (pa_cons (pv 3) pa_nil))))))
  (pss_one (ps_ret (pe_callTy (tupOf K) (by rfl) T.g_tuple (by decide +kernel) (pa_cons (pe_callB (srtRo K (hu65 hr)) (by rfl) T.g_sorted (by decide +kernel) (pa_cons (pv 2) pa_nil)) pa_nil)))))), ?_⟩
    obtain ⟨hin, h0, h10, few⟩ := id bk
    refine ⟨_, rfl, v, n, rows, rfl, hv, hin, h0, by omega, fun N ms H1 s1 hN hm nk => ?_⟩
    refine ⟨_, rfl, v, n, rows, rfl, hv.same s1, hin, h0, by omega, fun u H2 s2 ru => ?_⟩
    obtain ⟨ta, ts, rfl, hta, lta, rts⟩ := ru.tupA
    have lts := rts.length
    rw [List.length_map] at lts
    refine ⟨ta, rfl, ⟨_, hta⟩, fun D hD => ?_⟩
    have hm2 := s2 _ _ hm
    let pre : Nat → List Rope := fun i => ((tiesL n rows).take i).flatMap (ropesAt n rows)
    have preL : ∀ i, (pre i).length ≤ (ropesAll n rows).length := fun i => by
      show (((tiesL n rows).take i).flatMap (ropesAt n rows)).length ≤ _
      have e : ropesAll n rows = ((tiesL n rows).take i).flatMap (ropesAt n rows) ++ ((tiesL n rows).drop i).flatMap (ropesAt n rows) := by
        unfold ropesAll
        rw [← List.flatMap_append, List.take_append_drop]
      rw [e, List.length_append]
      omega
    let Pv : Nat → Hp → Prop := fun i H3 => ∃ ys, Fill H2 D H3 ys ∧ RpAll K H3 ys ((pre i).map dRope)
    refine ⟨fun i m H3 => m = ts.length - i ∧ i ≤ ts.length ∧ Pv i H3, ⟨_, rfl, Nat.zero_le _, [], Fill.start hD, .nil⟩, ?_⟩
    rintro i m H3 ⟨rfl, hi, ys0, fl0, ry0⟩
    have s3 : Same H2 H3 := fl0.1
    by_cases hlt : i < ts.length
    · obtain ⟨x, hx⟩ : ∃ x, ts[i]? = some x := ⟨ts[i], List.getElem?_eq_getElem hlt⟩
      refine .inr ⟨⟨_, _, seqT s3 hta, hx⟩, Pv (i + 1), fun H' p' => ⟨ts.length - (i + 1), by omega, rfl, hlt, p'⟩, fun x' H4 y => ?_⟩
      obtain ⟨e3, y⟩ := y
      subst e3
      have ex := y _ (seqT s3 hta)
      rw [hx] at ex
      have ex := (Option.some.inj ex).symm
      subst ex
      obtain ⟨t, c, ht, rfl, tc⟩ := rts.row hx
      obtain ⟨lo, hi2, et, hlt2, hhn, _⟩ := tiesL_in (List.mem_of_getElem? ht)
      have eP : pre (i + 1) = pre i ++ ropesAt n rows t := by
        show ((tiesL n rows).take (i + 1)).flatMap _ = _
        rw [List.take_succ, ht, List.flatMap_append]
        congr 1
        exact List.flatMap_singleton _ _
      have pl := preL (i + 1)
      rw [eP, List.length_append] at pl
      subst et
      have tc3 := tc.same s3
      refine ⟨c, _, rfl, tc3.1, rfl, _, _, rfl, _, _, rfl, rfl, rfl, ?_⟩
      show if true = true then _ else Pv (i + 1) H4
      rw [if_pos rfl]
      have lb := btw_len (rows := rows) h10 (x := (lo : Int)) (y := (hi2 : Int)) (by omega) hhn
      refine ⟨_, rfl, _, rfl, _, rfl, N, lo, hi2, n, rows, ms, rfl, s3 _ _ hm2, nk, ⟨hin, h0, by omega⟩, by omega, hhn, fun p H5 s5 tp => ⟨p, btw n rows lo hi2, rfl, tp, lb, fun G gs H6 s6 hG0 hG rg => ?_⟩⟩
      have lgs := rg.length
      rw [List.length_map] at lgs
      refine ⟨G, rfl, ⟨_, SqL.of hG⟩, ?_⟩
      have s46 := s5.trans s6
      have GD : G ≠ D := fun z => by
        have e := fl0.2
        rw [← z] at e
        have := s5 _ _ e
        rw [hG0] at this
        cases this
      have eRA : ropesAt n rows [(lo : Int), (hi2 : Int)] = (lotsF (btw n rows lo hi2)).map fun a => ((lo : Int), (hi2 : Int), a) := rfl
      have lra : (lotsF (btw n rows lo hi2)).length = (ropesAt n rows [(lo : Int), (hi2 : Int)]).length := by rw [eRA, List.length_map]
      have noG := noLs_rows (lotsF (btw n rows lo hi2))
      let Pw : Nat → Hp → Prop := fun j H7 => ∃ ys, Fill H2 D H7 ys ∧ H7 G = some (.lst gs) ∧ RpAll K H7 gs ((lotsF (btw n rows lo hi2)).map dTup) ∧ RpAll K H7 ys ((pre i ++ ((lotsF (btw n rows lo hi2)).take j).map fun a => ((lo : Int), (hi2 : Int), a)).map dRope)
      refine ⟨fun j m H7 => m = gs.length - j ∧ j ≤ gs.length ∧ Pw j H7, ⟨_, rfl, Nat.zero_le _, ys0, ⟨fl0.1.trans s46, s46 _ _ fl0.2⟩, hG, rg, by rw [List.take_zero, List.map_nil, List.append_nil]; exact ry0.same s46⟩, ?_⟩
      rintro j m H7 ⟨rfl, hj, ys, fl, hG7, rg7, ry⟩
      by_cases hjl : j < gs.length
      · obtain ⟨z, hz⟩ : ∃ z, gs[j]? = some z := ⟨gs[j], List.getElem?_eq_getElem hjl⟩
        refine .inr ⟨⟨_, _, SqL.of hG7, hz⟩, Pw (j + 1), fun H' p' => ⟨gs.length - (j + 1), by omega, rfl, hjl, p'⟩, fun x' H8 y => ?_⟩
        obtain ⟨e8, y⟩ := y
        subst e8
        have ex := y _ (SqL.of hG7)
        rw [hz] at ex
        have ex := (Option.some.inj ex).symm
        subst ex
        obtain ⟨A1, ca, hA1, rfl, tca⟩ := rg7.row hz
        refine ⟨rfl, ?_⟩
        show if true = true then _ else Pw (j + 1) H8
        rw [if_pos rfl]
        have lys := ry.length
        rw [List.length_map, List.length_append, List.length_map, List.length_take] at lys
        refine ⟨_, rfl, _, rfl, _, rfl, (by show 3 ≤ sizeLine; decide), fun q hq => ?_⟩
        have sq := same_upd (o := .tup [V.int (lo : Int), .int (hi2 : Int), .ref ca]) hq
        have rq : Rp K (upd H8 q (.tup [V.int (lo : Int), .int (hi2 : Int), .ref ca])) (.ref q) (dRope ((lo : Int), (hi2 : Int), A1)) := .tup (SqT.of upd_same) (by show 3 ≤ 1000; decide) (.cons (.int _) (.two (.int _) (tca.same sq).rp))
        have fl8 := fl.push hD sq (y := .ref q)
        have hD8 := fl.at sq
        refine ⟨ys, hD8, small1000 (by omega), ys ++ [.ref q], fl8, ?_, ?_, ?_⟩
        · rw [upd_ne GD]
          exact sq _ _ hG7
        · exact RpAll.upd hD8 noG (rg7.same sq)
        · rw [List.take_succ, hA1]
          show RpAll K _ _ ((pre i ++ (((lotsF (btw n rows lo hi2)).take j ++ [A1]).map fun a => ((lo : Int), (hi2 : Int), a))).map dRope)
          have e9 : (pre i ++ (((lotsF (btw n rows lo hi2)).take j ++ [A1]).map fun a => ((lo : Int), (hi2 : Int), a))) = (pre i ++ ((lotsF (btw n rows lo hi2)).take j).map fun a => ((lo : Int), (hi2 : Int), a)) ++ [((lo : Int), (hi2 : Int), A1)] := by
            rw [List.map_append, List.append_assoc]
            rfl
          rw [e9, List.map_append]
          refine RpAll.upd hD8 ?_ ((ry.same sq).app (.one rq))
          have := noLs_ropes ((pre i ++ ((lotsF (btw n rows lo hi2)).take j).map fun a => ((lo : Int), (hi2 : Int), a)) ++ [((lo : Int), (hi2 : Int), A1)])
          rw [List.map_append] at this
          exact this
      · have hje : j = gs.length := by omega
        refine .inl ⟨⟨_, SqL.of hG7, by omega⟩, ys, fl, ?_⟩
        rw [hje, lgs, List.take_length] at ry
        rw [eP, eRA]
        exact ry
    · have hie : i = ts.length := by omega
      subst hie
      refine .inl ⟨⟨_, seqT s3 hta, Nat.le_refl _⟩, ?_⟩
      have ep : pre ts.length = ropesAll n rows := by
        show ((tiesL n rows).take ts.length).flatMap _ = _
        rw [lts, List.take_length]
        rfl
      rw [ep] at ry0
      dsimp only [tNil]
      have s03 := (s1.trans s2).trans s3
      refine ⟨_, rfl, D, ys0, ropesAll n rows, rfl, SqL.of fl0.2, ry0, fun zs p lz rz hp => ?_⟩
      have sp := same_upd (o := .lst zs) hp
      have ly0 := ry0.length
      rw [List.length_map] at ly0
      refine tupL_use (SqL.of upd_same) fun q H5 s5 hq => ?_
      exact k _ _ ((s03.trans sp).trans s5) (.tup hq (by omega) ((rz.same sp).same s5))
end
end LK
namespace LK
open PySem PySem.Spec PyProof.Rows L2
def ropeOfD : PyData → Rope
  | .tuple [x, y, z] => (toInt x, toInt y, dInts z)
  | _ => (0, 0, [])
/-- is it a rope of the book -/
def isRope (n : Int) (rows : List (List Int)) : PyData → Bool
  | .tuple [x, y, z] => isTie n rows (.tuple [x, y]) && isLot n z && (dInts z).all fun a => decide (a ∈ btw n rows (toInt x) (toInt y))
  | _ => false
theorem isRope_in {n : Int} {rows : List (List Int)} {d : PyData} (h : isRope n rows d = true) : ∃ (lo hi : Nat) (A : List Int), d = dRope ((lo : Int), (hi : Int), A) ∧ lo < hi ∧ (hi : Int) < n ∧ tiedB rows lo hi = true ∧ isLot n (dTup A) = true ∧ ∀ a ∈ A, a ∈ btw n rows lo hi := by
  unfold isRope at h
  split at h
  · rename_i x y z
    rw [Bool.and_eq_true, Bool.and_eq_true] at h
    obtain ⟨⟨h1, h2⟩, h3⟩ := h
    obtain ⟨lo, hi, e, a1, a2, a3⟩ := isTie_in h1
    injection e with e
    injection e with e1 e
    injection e with e2 _
    subst e1 e2
    have ez : z = dTup (dInts z) := areBelow_tup (by unfold isLot at h2; rw [Bool.and_eq_true] at h2; exact h2.1)
    refine ⟨lo, hi, dInts z, ?_, a1, a2, a3, by rw [← ez]; exact h2, fun a ha => of_decide_eq_true (List.all_eq_true.mp h3 a ha)⟩
    show PyData.tuple [.int lo, .int hi, z] = .tuple [.int lo, .int hi, dTup (dInts z)]
    rw [← ez]
  · cases h
def spIsRope (K : PySem.W.Frag) : Sp := fun vs H Q _ => ∃ (v u : V) (d : PyData) (n : Int) (rows : List (List Int)), vs = [v, u] ∧ Rp K H v (bookD n rows) ∧ Rp K H u d ∧ BookIn n rows ∧ ∀ H', Same H H' → Q (.bl (isRope n rows d)) H'
def risingR (R : List Rope) : Bool := ((List.range (R.length - 1)).map fun j => decide (ropeRow (R.getD j (0, 0, [])) < ropeRow (R.getD (j + 1) (0, 0, [])))).all id
def spRisingR (K : PySem.W.Frag) : Sp := fun vs H Q _ => ∃ (a : Addr) (R : List Rope), vs = [.ref a] ∧ Rp K H (.ref a) (dRopes R) ∧ ∀ H', Same H H' → Q (.bl (risingR R)) H'
/-- are they ropes of the book, ascending -/
def isRopes (n : Int) (rows : List (List Int)) : PyData → Bool
  | .tuple ds => ds.all (isRope n rows) && risingR (ds.map ropeOfD)
  | _ => false
def spIsRopes (K : PySem.W.Frag) : Sp := fun vs H Q _ => ∃ (v u : V) (d : PyData) (n : Int) (rows : List (List Int)), vs = [v, u] ∧ Rp K H v (bookD n rows) ∧ Rp K H u d ∧ BookIn n rows ∧ ∀ H', Same H H' → Q (.bl (isRopes n rows d)) H'
theorem rope_back {d : PyData} {lo hi : Int} {A : List Int} (h : d = dRope (lo, hi, A)) : dRope (ropeOfD d) = d := by
  subst h
  show PyData.tuple [.int lo, .int hi, dTup (dInts (dTup A))] = _
  rw [dInts_tup]
  rfl
theorem rp_rope {K : PySem.W.Frag} {H : Hp} {v : V} {r : Rope} (h : Rp K H v (dRope r)) : ∃ a c, v = .ref a ∧ SqT K H a [.int r.1, .int r.2.1, .ref c] ∧ TupI K H c r.2.2 := by
  obtain ⟨a, xs, rfl, h1, h2, h3⟩ := Rp.tupA (ds := [.int r.1, .int r.2.1, dTup r.2.2]) h
  cases h3 with
  | cons r1 h3 => cases h3 with
    | cons r2 h3 => cases h3 with
      | cons r3 h3 =>
        cases h3
        cases r1
        cases r2
        obtain ⟨c, rfl, t⟩ := r3.tupI
        exact ⟨a, c, rfl, h1, t⟩
section
variable {P : Program} {w : World} {K : PySem.W.Frag} {mg : Str → Option Value} {base : Heap} {ad : Nat → Addr} {fd : Nat → FuncData}
theorem ok_is_rope (T : Txt K mg ad fd) : FnOk P w K mg base CX0 7 (ad 23) (fd 23) ["book", "thing"] (spIsRope K) := by
  refine T.F_is_rope.ok sc_is_rope (fun vs H Q E h => ?_) (fun cdv A outer s H vs Q E hr h => ?_)
  · obtain ⟨v, u, d, n, rows, rfl, _⟩ := h
    rfl
  · obtain ⟨v, u, d, n, rows, rfl, hv, hu, bk, k⟩ := h
    refine ⟨_, (pss_cons (ps_if (PW.pt (pw_or (pt_not (pt_val (pe_callB (isiR K) (by rfl) T.g_isinstance (by decide +kernel) (pa_cons (pv 1) (pa_cons (pe_bltn (v := .ty "tuple") (by rfl) T.g_tuple (by decide +kernel) rfl) pa_nil))))) (pw_or1 (pt_cmpR op_ne (pe_callB (lenS K) (by rfl) T.g_len (by decide +kernel) (pa_cons (pv 1) pa_nil)) pe_int (nomark _))))) (pss_one (ps_ret pe_bl))
  pss_nil)
  (pss_cons (ps_asg (pv 1) (pg_tup rfl (pgs_cons (pg_name (i := 3) (x := "low") sc_is_rope.nd rfl (Or.inl rfl)) (pgs_cons (pg_name (i := 4) (x := "high") sc_is_rope.nd rfl (Or.inl rfl)) (pgs_cons (pg_name (i := 5) (x := "ahead") sc_is_rope.nd rfl (Or.inl rfl)) pgs_nil)))))
  (pss_cons (ps_if (PW.pt (pw_or (pt_not (pt_val (pe_call (ok_is_tie T) (hr.mono (by decide)) rfl T.m_is_tie T.F_is_tie.kp (b_is_tie T) .nil pass0 (pa_cons (pv 0) (pa_cons (pe_tup (pa_cons (pv 3) (pa_cons (pv 4) pa_nil))) pa_nil))))) (pw_or1 (pt_not (pt_val (pe_call (ok_is_lot T) (hr.mono (by decide)) rfl T.m_is_lot T.F_is_lot.kp (b_is_lot T) .nil pass0 (pa_cons (pe_ix (ixT K) (pv 0) pe_int (fun _ _ => rfl)) (pa_cons (pv 5) pa_nil)))))))) (pss_one (ps_ret pe_bl))
  pss_nil)
  (pss_cons (ps_set (i := 2) sc_is_rope.nd rfl (Or.inr rfl) (pe_call (ok_between_in T) (hr.mono (by decide)) rfl T.m_between_in T.F_between_in.kp (b_between_in T) .nil pass0 (pa_cons (pe_call (ok_near_masks T) (hr.mono (by decide)) rfl T.m_near_masks T.F_near_masks.kp (b_near_masks T) .nil pass0 (pa_cons (pv 0) pa_nil)) (pa_cons (pv 3) (pa_cons (pv 4) pa_nil)))))
  (pss_one (ps_ret (pe_callB (allR K) (by rfl) T.g_all (by decide +kernel) (pa_cons (pe_lc (own := [("one", 6)]) (g := gName 6) rfl sc_is_rope.nd (piT K (pv 5)) (blkOk_by (N := ["book", "thing", "middle", "low", "high", "ahead", "one"]) (sc := defScope s_is_rope) (by decide +kernel)) (fun _ _ _ _ _ => (pg_name (i := 6) (x := "one") sc_is_rope.nd rfl (Or.inl rfl))) (fun _ _ _ _ _ => pts_nil) (fun _ _ _ _ _ => (pe_cmpR (inS K) (pv 6) (pv 2) (by with_unfolding_all rfl)))) pa_nil)))))))), ?_⟩
    obtain ⟨hin, h0, h1⟩ := id bk
    refine ⟨_, rfl, u, .ty "tuple", _, _, _, rfl, .ty _, hu.ty, isi_tuple hu, _, rfl, ?_⟩
    cases hu with
    | tup st lt rt =>
      rename_i a xs ds
      refine iteF ?_
      have lx := rt.length
      refine ⟨_, rfl, a, _, rfl, .inr st, rfl, _, rfl, ?_⟩
      match ds, rt with
      | [x, y, z], rt =>
        cases rt with
        | cons r1 rt => cases rt with
          | cons r2 rt => cases rt with
            | cons r3 rt =>
              cases rt
              rename_i v1 v2 v3
              refine iteF ?_
              refine ⟨_, rfl, a, _, rfl, st, rfl, _, _, rfl, _, _, rfl, _, _, rfl, rfl, ?_⟩
              refine ⟨_, rfl, _, rfl, _, rfl, (by show 2 ≤ sizeLine; decide), fun q hq => ?_⟩
              have sq := same_upd (o := .tup [v1, v2]) hq
              have rq : Rp K (upd H q (.tup [v1, v2])) (.ref q) (.tuple [x, y]) := .tup (SqT.of upd_same) (by show 2 ≤ 1000; decide) (.two (r1.same sq) (r2.same sq))
              refine ⟨v, .ref q, .tuple [x, y], n, rows, rfl, hv.same sq, rq, fun H1 s1 => ⟨_, rfl, ?_⟩⟩
              have s01 := sq.trans s1
              have k' : ∀ b H', Same H H' → b = isRope n rows (.tuple [x, y, z]) → Q (.bl b) H' := fun b H' s e => by rw [e]; exact k _ s
              have eD : isRope n rows (.tuple [x, y, z]) = (isTie n rows (.tuple [x, y]) && isLot n z && (dInts z).all fun a => decide (a ∈ btw n rows (toInt x) (toInt y))) := rfl
              cases c1 : isTie n rows (.tuple [x, y]) with
              | false => exact iteT (iteT (k' _ _ s01 (by rw [eD, c1]; rfl)))
              | true =>
                refine iteF ?_
                obtain ⟨b, L, bs, rfl, hb, hL, hz, hrb⟩ := rp_book hv
                refine ⟨_, rfl, b, _, 0, _, rfl, rfl, seqT s01 hb, rfl, _, rfl, n, v3, z, rfl, r3.same s01, fun H2 s2 => ⟨_, rfl, ?_⟩⟩
                have s02 := s01.trans s2
                cases c2 : isLot n z with
                | false => exact iteT (k' _ _ s02 (by rw [eD, c1, c2]; rfl))
                | true =>
                  refine iteF ?_
                  obtain ⟨lo, hi, e, a1, a2, a3⟩ := isTie_in c1
                  injection e with e
                  injection e with e1 e
                  injection e with e2 _
                  subst e1 e2
                  cases r1
                  cases r2
                  have ez : z = dTup (dInts z) := areBelow_tup (by unfold isLot at c2; rw [Bool.and_eq_true] at c2; exact c2.1)
                  rw [ez] at r3
                  obtain ⟨cz, rfl, tz⟩ := r3.tupI
                  refine ⟨_, rfl, .ref b, n, rows, rfl, hv.same s02, hin, h0, h1, fun N ms H3 s3 hN hm nk => ?_⟩
                  refine ⟨_, rfl, _, rfl, N, lo, hi, n, rows, ms, rfl, hm, nk, ⟨hin, h0, h1⟩, by omega, a2, fun p H4 s4 tp => ?_⟩
                  have s24 := s3.trans s4
                  have s04 := s02.trans s24
                  have tz4 := tz.same s04
                  refine ⟨_, rfl, cz, rfl, ⟨_, tz4.1⟩, fun D hD => ?_⟩
                  refine lcT (K := K) (xs := (dInts z).map V.int) (fun _ => true) (fun j => .bool (decide ((dInts z).getD j 0 ∈ btw n rows lo hi))) hD tz4.1 (by rw [List.length_map]; exact tz.2) (fun _ _ _ => rfl) (fun j x H5 hj s5 Q1 Q2 k1 k2 => ?_) (fun ys H5 s5 hy ry => ?_)
                  · obtain ⟨m, hm2, rfl⟩ := intAt hj
                    have em : (dInts z).getD j 0 = m := by rw [List.getD_eq_getElem?_getD, hm2]; rfl
                    rw [em] at k1
                    have tp5 := tp.same s5
                    refine ⟨rfl, _, rfl, _, rfl, p, _, rfl, .inr tp5.1, rfl, flat_ints _, ?_⟩
                    show Q1 (.bl (inV (.int m) ((natI (betweenN n rows lo hi)).map V.int))) H5
                    rw [inV_int]
                    exact k1 rfl _ _ (Same.refl _) (.bl _)
                  · rw [filter_true, List.length_map] at ry
                    have e := RpAll.ofBools (bs := (List.range (dInts z).length).map fun j => decide ((dInts z).getD j 0 ∈ btw n rows lo hi)) (by rw [List.map_map]; exact ry)
                    subst e
                    refine ⟨_, _, rfl, SqL.of hy, ?_⟩
                    have e2 : ((List.range (dInts z).length).map fun j => decide ((dInts z).getD j 0 ∈ btw n rows lo hi)).all id = (dInts z).all fun a => decide (a ∈ btw n rows lo hi) := all_range (fun a => decide (a ∈ btw n rows lo hi)) 0 (dInts z)
                    show Q (.bl _) H5
                    rw [e2]
                    exact k' _ _ (s04.trans s5) (by rw [eD, c1, c2]; rfl)
      | [], rt => cases rt; exact iteT (k _ (Same.refl _))
      | [_], rt => cases rt with
        | cons _ rt => cases rt; exact iteT (k _ (Same.refl _))
      | [_, _], rt => cases rt with
        | cons _ rt => cases rt with
          | cons _ rt => cases rt; exact iteT (k _ (Same.refl _))
      | x :: y :: z :: t :: r, rt =>
        have e : decide (V.int ((xs.length : Nat) : Int) = V.int 3) = false := decide_eq_false fun z => by injection z with z; rw [lx] at z; simp at z; omega
        show if (!decide (V.int ((xs.length : Nat) : Int) = V.int 3)) = true then _ else _
        rw [e]
        exact iteT (k _ (Same.refl _))
    | _ => exact iteT (iteT (k _ (Same.refl _)))
end
end LK
namespace LK
open PySem PySem.Spec PyProof.Rows L2
/-- the masks of what is tied to each thing stand at N -/
structure NearAt (K : PySem.W.Frag) (H : Hp) (N : Addr) (ms : List Nat) (n : Int) (rows : List (List Int)) : Prop where
  at_ : H N = some (.lst ((natI ms).map V.int))
  ok : NearOk n rows ms
  bk : BookIn n rows
theorem NearAt.same {K : PySem.W.Frag} {H H' : Hp} {N : Addr} {ms : List Nat} {n : Int} {rows : List (List Int)} (h : NearAt K H N ms n rows) (s : Same H H') : NearAt K H' N ms n rows := ⟨s _ _ h.at_, h.ok, h.bk⟩
/-- the ends may be ends of a rope -/
def EndsOk (n : Int) (r : Rope) : Prop := ∃ lo hi : Nat, r.1 = lo ∧ r.2.1 = hi ∧ (lo : Int) < n ∧ (hi : Int) < n
def thingsR (n : Int) (rows : List (List Int)) (r : Rope) : List Int := (r.1 :: btw n rows r.1 r.2.1) ++ [r.2.1]
def cutR (n : Int) (rows : List (List Int)) (r : Rope) (x y : Int) : Rope := (x, y, (btw n rows x y).filter fun w => decide (w ∈ r.2.2))
def isCut (n : Int) (rows : List (List Int)) (r o : Rope) : Bool := !(decide (r.1 < o.1) || decide (o.2.1 < r.2.1)) && (decide (r.1 ∈ thingsR n rows o) && (decide (r.2.1 ∈ thingsR n rows o) && decide (cutR n rows o r.1 r.2.1 = r)))
def spMiddle (K : PySem.W.Frag) : Sp := fun vs H Q _ => ∃ (N : Addr) (u : V) (ms : List Nat) (n : Int) (rows : List (List Int)) (r : Rope), vs = [.ref N, u] ∧ NearAt K H N ms n rows ∧ Rp K H u (dRope r) ∧ EndsOk n r ∧ ∀ p H', Same H H' → TupI K H' p (btw n rows r.1 r.2.1) → Q (.ref p) H'
def spThingsR (K : PySem.W.Frag) : Sp := fun vs H Q _ => ∃ (N : Addr) (u : V) (ms : List Nat) (n : Int) (rows : List (List Int)) (r : Rope), vs = [.ref N, u] ∧ NearAt K H N ms n rows ∧ Rp K H u (dRope r) ∧ EndsOk n r ∧ ∀ p H', Same H H' → TupI K H' p (thingsR n rows r) → Q (.ref p) H'
def spCutIn (K : PySem.W.Frag) : Sp := fun vs H Q _ => ∃ (N : Addr) (u : V) (x y : Nat) (ms : List Nat) (n : Int) (rows : List (List Int)) (r : Rope), vs = [.ref N, u, .int x, .int y] ∧ NearAt K H N ms n rows ∧ Rp K H u (dRope r) ∧ (x : Int) < n ∧ (y : Int) < n ∧ ∀ z H', Same H H' → Rp K H' z (dRope (cutR n rows r x y)) → Q z H'
def spIsCut (K : PySem.W.Frag) : Sp := fun vs H Q _ => ∃ (N : Addr) (u v : V) (ms : List Nat) (n : Int) (rows : List (List Int)) (r o : Rope), vs = [.ref N, u, v] ∧ NearAt K H N ms n rows ∧ Rp K H u (dRope r) ∧ Rp K H v (dRope o) ∧ EndsOk n r ∧ EndsOk n o ∧ ∀ H', Same H H' → Q (.bl (isCut n rows r o)) H'
section
variable {P : Program} {w : World} {K : PySem.W.Frag} {mg : Str → Option Value} {base : Heap} {ad : Nat → Addr} {fd : Nat → FuncData}
theorem ok_is_risingR (T : Txt K mg ad fd) : FnOk P w K mg base CX0 1 (ad 4) (fd 4) ["things"] (spRisingR K) := by
  refine T.F_is_rising.ok sc_is_rising (fun vs H Q E h => ?_) (fun cdv A outer s H vs Q E hr h => ?_)
  · obtain ⟨a, TT, rfl, _⟩ := h
    rfl
  · obtain ⟨a, TT, rfl, h, k⟩ := h
    refine ⟨_, (pss_one (ps_ret (pe_callB (allR K) (by rfl) T.g_all (by decide +kernel) (pa_cons (pe_lc (own := [("k", 1)]) (g := gName 1) rfl sc_is_rising.nd (pi_range2 rfl T.g_range (pa_cons pe_int (pa_cons (pe_callB (lenS K) (by rfl) T.g_len (by decide +kernel) (pa_cons (pv 0) pa_nil)) pa_nil))) (blkOk_by (N := ["things", "k"]) (sc := defScope s_is_rising) (by decide +kernel)) (fun _ _ _ _ _ => (pg_name (i := 1) (x := "k") sc_is_rising.nd rfl (Or.inl rfl))) (fun _ _ _ _ _ => pts_nil) (fun _ _ _ _ _ => (pe_cmpR (ltRo K (hu65 hr)) (pe_ix (ixT K) (pv 0) (pe_op op_sub (pv 1) pe_int) (fun _ _ => rfl)) (pe_ix (ixT K) (pv 0) (pv 1) (fun _ _ => rfl)) (nomark _)))) pa_nil)))), ?_⟩
    obtain ⟨a', xs, ea, s, l, r⟩ := Rp.tupA (ds := TT.map dRope) h
    cases ea
    have hl : xs.length = TT.length := by rw [r.length, List.length_map]
    have ez : ((xs.length : Int) - 1).toNat = TT.length - 1 := by omega
    refine ⟨_, rfl, _, _, rfl, .inr s, _, _, rfl, ⟨by decide, by decide, by omega, by omega⟩, fun D hD => ?_⟩
    rw [ez]
    refine lcR (K := K) (lo := 1) (n := TT.length - 1) (fun _ => true) (fun j => .bool (decide (ropeRow (TT.getD j (0, 0, [])) < ropeRow (TT.getD (j + 1) (0, 0, []))))) hD (by omega) (fun _ _ _ => rfl) (fun i H1 hi s1 Q1 Q2 k1 k2 => ?_) (fun ys H1 s1 hy r3 => ?_)
    · refine ⟨rfl, ?_⟩
      obtain ⟨v1, g1, r1⟩ := r.getD (i := i) (d := dRope (TT.getD i (0, 0, []))) (by rw [List.getElem?_map, List.getD_eq_getElem?_getD, List.getElem?_eq_getElem (by omega)]; rfl)
      obtain ⟨v2, g2, r2⟩ := r.getD (i := i + 1) (d := dRope (TT.getD (i + 1) (0, 0, []))) (by rw [List.getElem?_map, List.getD_eq_getElem?_getD, List.getElem?_eq_getElem (by omega)]; rfl)
      refine ⟨_, rfl, _, rfl, _, _, rfl, rfl, _, _, _, _, rfl, rfl, (seqT s1 s), at_of (j := i) (by omega) g1, _, rfl, _, rfl, _, _, _, _, rfl, rfl, (seqT s1 s), at_of (j := i + 1) (by omega) g2, _, _, r1.same s1, r2.same s1, ?_⟩
      exact k1 rfl _ _ (Same.refl _) (.bl _)
    · rw [filter_true] at r3
      have e := RpAll.ofBools (bs := (List.range (TT.length - 1)).map fun j => decide (ropeRow (TT.getD j (0, 0, [])) < ropeRow (TT.getD (j + 1) (0, 0, [])))) (by rw [List.map_map]; exact r3)
      subst e
      refine ⟨_, _, rfl, SqL.of hy, ?_⟩
      exact k _ s1
theorem ok_is_ropes (T : Txt K mg ad fd) : FnOk P w K mg base CX0 8 (ad 24) (fd 24) ["book", "thing"] (spIsRopes K) := by
  refine T.F_is_ropes.ok sc_is_ropes (fun vs H Q E h => ?_) (fun cdv A outer s H vs Q E hr h => ?_)
  · obtain ⟨v, u, d, n, rows, rfl, _⟩ := h
    rfl
  · obtain ⟨v, u, d, n, rows, rfl, hv, hu, bk, k⟩ := h
    refine ⟨_, (pss_one (ps_ret (pe_and (pe_callB (isiR K) (by rfl) T.g_isinstance (by decide +kernel) (pa_cons (pv 1) (pa_cons (pe_bltn (v := .ty "tuple") (by rfl) T.g_tuple (by decide +kernel) rfl) pa_nil))) (pe_and (pe_callB (allR K) (by rfl) T.g_all (by decide +kernel) (pa_cons (pe_lc (own := [("rope", 2)]) (g := gName 2) rfl sc_is_ropes.nd (piT K (pv 1)) (blkOk_by (N := ["book", "thing", "rope"]) (sc := defScope s_is_ropes) (by decide +kernel)) (fun _ _ _ _ _ => (pg_name (i := 2) (x := "rope") sc_is_ropes.nd rfl (Or.inl rfl))) (fun _ _ _ _ _ => pts_nil) (fun _ _ _ _ _ => (pe_call (ok_is_rope T) (hr.mono (by decide)) rfl T.m_is_rope T.F_is_rope.kp (b_is_rope T) .nil pass0 (pa_cons (pv 0) (pa_cons (pv 2) pa_nil))))) pa_nil)) (pe_one (pe_call (ok_is_risingR T) (hr.mono (by decide)) rfl T.m_is_rising T.F_is_rising.kp (b_is_rising T) .nil pass0 (pa_cons (pv 1) pa_nil))))))), ?_⟩
    refine ⟨_, rfl, u, .ty "tuple", _, _, _, rfl, .ty _, hu.ty, isi_tuple hu, _, rfl, ?_⟩
    have hu0 := hu
    cases hu with
    | tup st lt rt =>
      rename_i a xs ds
      refine iteT ?_
      have lx := rt.length
      refine ⟨_, rfl, a, rfl, ⟨_, st⟩, fun D hD => ?_⟩
      refine lcT (K := K) (xs := xs) (fun _ => true) (fun j => .bool (isRope n rows (ds.getD j .none))) hD st lt (fun _ _ _ => rfl) (fun j x H1 hj s1 Q1 Q2 k1 k2 => ?_) (fun ys H1 s1 hy ry => ?_)
      · obtain ⟨e, he, re⟩ := rt.get hj
        have em : ds.getD j .none = e := by rw [List.getD_eq_getElem?_getD, he]; rfl
        rw [em] at k1
        exact ⟨rfl, _, rfl, _, rfl, v, x, e, n, rows, rfl, hv.same s1, re.same s1, bk, fun H2 s2 => k1 rfl _ _ s2 (.bl _)⟩
      · rw [filter_true, lx] at ry
        have e := RpAll.ofBools (bs := (List.range ds.length).map fun j => isRope n rows (ds.getD j .none)) (by rw [List.map_map]; exact ry)
        subst e
        refine ⟨_, _, rfl, SqL.of hy, ?_⟩
        have e2 : ((List.range ds.length).map fun j => isRope n rows (ds.getD j .none)).all id = ds.all (isRope n rows) := all_range (isRope n rows) .none ds
        rw [e2]
        have eD : isRopes n rows (.tuple ds) = (ds.all (isRope n rows) && risingR (ds.map ropeOfD)) := rfl
        refine ⟨_, rfl, ?_⟩
        cases c : ds.all (isRope n rows) with
        | false =>
          have := k H1 s1
          rw [eD, c] at this
          exact iteF this
        | true =>
          refine iteT ?_
          have ed : PyData.tuple ds = dRopes (ds.map ropeOfD) := by
            unfold dRopes
            rw [List.map_map]
            congr 1
            refine (List.map_id ds).symm.trans (List.map_congr_left fun d hd => ?_)
            obtain ⟨lo, hi, A1, e, _⟩ := isRope_in (List.all_eq_true.mp c d hd)
            exact (rope_back e).symm
          rw [ed] at hu0
          refine ⟨_, rfl, a, ds.map ropeOfD, rfl, hu0.same s1, fun H2 s2 => ?_⟩
          have := k H2 (s1.trans s2)
          rw [eD, c, Bool.true_and] at this
          exact this
    | _ => exact iteF (k _ (Same.refl _))
theorem ok_middle_in (T : Txt K mg ad fd) : FnOk P w K mg base CX0 3 (ad 25) (fd 25) ["near", "rope"] (spMiddle K) := by
  refine T.F_middle_in.ok sc_middle_in (fun vs H Q E h => ?_) (fun cdv A outer s H vs Q E hr h => ?_)
  · obtain ⟨N, u, ms, n, rows, r, rfl, _⟩ := h
    rfl
  · obtain ⟨N, u, ms, n, rows, r, rfl, hN, hu, ⟨lo, hi, e1, e2, h1, h2⟩, k⟩ := h
    refine ⟨_, (pss_one (ps_ret (pe_call (ok_between_in T) (hr.mono (by decide)) rfl T.m_between_in T.F_between_in.kp (b_between_in T) .nil pass0 (pa_cons (pv 0) (pa_cons (pe_ix (ixT K) (pv 1) pe_int (fun _ _ => rfl)) (pa_cons (pe_ix (ixT K) (pv 1) pe_int (fun _ _ => rfl)) pa_nil)))))), ?_⟩
    obtain ⟨a, c, rfl, ha, tc⟩ := rp_rope hu
    rw [e1, e2] at ha
    rw [e1, e2] at k
    exact ⟨_, rfl, _, rfl, a, _, 0, _, rfl, rfl, ha, rfl, _, rfl, a, _, 1, _, rfl, rfl, ha, rfl, N, lo, hi, n, rows, ms, rfl, hN.at_, hN.ok, hN.bk, h1, h2, fun p H' s tp => k p H' s tp⟩
theorem ok_things_in (T : Txt K mg ad fd) : FnOk P w K mg base CX0 4 (ad 27) (fd 27) ["near", "rope"] (spThingsR K) := by
  refine T.F_things_in.ok sc_things_in (fun vs H Q E h => ?_) (fun cdv A outer s H vs Q E hr h => ?_)
  · obtain ⟨N, u, ms, n, rows, r, rfl, _⟩ := h
    rfl
  · obtain ⟨N, u, ms, n, rows, r, rfl, hN, hu, he, k⟩ := h
    refine ⟨_, (pss_one (ps_ret (pe_op (catA K) (pe_op (catA K) (pe_slice (slA K) (pv 1) po_none (po_some pe_int)) (pe_call (ok_middle_in T) (hr.mono (by decide)) rfl T.m_middle_in T.F_middle_in.kp (b_middle_in T) .nil pass0 (pa_cons (pv 0) (pa_cons (pv 1) pa_nil)))) (pe_slice (slA K) (pv 1) (po_some pe_int) (po_some pe_int))))), ?_⟩
    obtain ⟨a, c, rfl, ha, tc⟩ := rp_rope hu
    refine ⟨_, rfl, ?_⟩
    dsimp only [tNoPart]
    refine ⟨_, rfl, slA_use ha fun p1 H1 s1 hp1 => ?_⟩
    have hp1 : SqT K H1 p1 [.int r.1] := hp1
    refine ⟨_, rfl, _, rfl, N, .ref a, ms, n, rows, r, rfl, hN.same s1, hu.same s1, he, fun p2 H2 s2 tp2 => ?_⟩
    refine catA_use (seqT s2 hp1) tp2.1 (by rw [List.length_map]; have := tp2.2; show 1 + _ ≤ 2000; omega) fun p3 H3 s3 hp3 => ?_
    have s03 := (s1.trans s2).trans s3
    refine ⟨_, rfl, _, rfl, _, rfl, slA_use (seqT s03 ha) fun p4 H4 s4 hp4 => ?_⟩
    have hp4 : SqT K H4 p4 [.int r.2.1] := hp4
    have lb : (btw n rows r.1 r.2.1).length ≤ 1000 := tp2.2
    have lb8 : (btw n rows r.1 r.2.1).length ≤ 998 := by
      obtain ⟨lo, hi, e1, e2, h1, h2⟩ := he
      unfold btw
      have nd : (natI (betweenN n rows r.1 r.2.1)).Nodup := (btw_pw n rows _ _).imp fun h => by omega
      have hn := hN.bk.2.2
      have := nodup_leG nd (m := (List.range 998).map fun i : Nat => (i : Int) + 1) fun z hz => by
        obtain ⟨h3, h4, h5, h6, _⟩ := btw_mem.mp hz
        rw [e1] at h3
        rw [e2] at h4
        refine List.mem_map.mpr ⟨(z - 1).toNat, List.mem_range.mpr (by omega), by omega⟩
      simpa using this
    refine catA_use (seqT s4 hp3) hp4 (by rw [List.length_append, List.length_map]; show 1 + _ + 1 ≤ 2000; omega) fun p5 H5 s5 hp5 => ?_
    refine k p5 H5 ((s03.trans s4).trans s5) ⟨?_, ?_⟩
    · show SqT K H5 p5 (((r.1 :: btw n rows r.1 r.2.1) ++ [r.2.1]).map V.int)
      rw [List.map_append]
      exact hp5
    · show ((r.1 :: btw n rows r.1 r.2.1) ++ [r.2.1]).length ≤ 1000
      rw [List.length_append, List.length_cons]
      show _ + 1 + 1 ≤ 1000
      omega
theorem ok_cut_in (T : Txt K mg ad fd) : FnOk P w K mg base CX0 3 (ad 28) (fd 28) ["near", "rope", "low", "high"] (spCutIn K) := by
  refine T.F_cut_in.ok sc_cut_in (fun vs H Q E h => ?_) (fun cdv A outer s H vs Q E hr h => ?_)
  · obtain ⟨N, u, x, y, ms, n, rows, r, rfl, _⟩ := h
    rfl
  · obtain ⟨N, u, x, y, ms, n, rows, r, rfl, hN, hu, hx, hy, k⟩ := h
    refine ⟨_, (pss_one (ps_ret (pe_tup (pa_cons (pv 2) (pa_cons (pv 3) (pa_cons (pe_callTy (tupOf K) (by rfl) T.g_tuple (by decide +kernel) (pa_cons (pe_lc (own := [("thing", 4)]) (g := gName 4) rfl sc_cut_in.nd (piT K (pe_call (ok_between_in T) (hr.mono (by decide)) rfl T.m_between_in T.F_between_in.kp (b_between_in T) .nil pass0 (pa_cons (pv 0) (pa_cons (pv 2) (pa_cons (pv 3) pa_nil))))) (blkOk_by (N := ["near", "rope", "low", "high", "thing"]) (sc := defScope s_cut_in) (by decide +kernel)) (fun _ _ _ _ _ => (pg_name (i := 4) (x := "thing") sc_cut_in.nd rfl (Or.inl rfl))) (fun _ _ _ _ _ => (pts_one (pt_cmpR (inS K) (pv 4) (pe_ix (ixT K) (pv 1) pe_int (fun _ _ => rfl)) (by with_unfolding_all rfl)))) (fun _ _ _ _ _ => (pv 4))) pa_nil)) pa_nil)))))), ?_⟩
    refine ⟨_, rfl, _, rfl, _, rfl, _, rfl, _, rfl, N, x, y, n, rows, ms, rfl, hN.at_, hN.ok, hN.bk, hx, hy, fun p H1 s1 tp => ⟨p, rfl, ⟨_, tp.1⟩, fun D hD => ?_⟩⟩
    obtain ⟨a, c, rfl, ha, tc⟩ := rp_rope hu
    have ea : ∀ H2, Same H1 H2 → SqT K H2 a [.int r.1, .int r.2.1, .ref c] := fun H2 s2 => seqT (s1.trans s2) ha
    refine lcT (K := K) (xs := (btw n rows x y).map V.int) (fun j => decide ((btw n rows x y).getD j 0 ∈ r.2.2)) (fun j => .int ((btw n rows x y).getD j 0)) hD tp.1 (by rw [List.length_map]; exact tp.2) (fun _ _ _ => rfl) (fun j z H2 hj s2 Q1 Q2 k1 k2 => ?_) (fun ys H2 s2 hy2 ry => ?_)
    · obtain ⟨m, hm, rfl⟩ := intAt hj
      have em : (btw n rows x y).getD j 0 = m := by rw [List.getD_eq_getElem?_getD, hm]; rfl
      rw [em] at k1 k2
      refine ⟨rfl, _, rfl, _, rfl, a, _, 2, _, rfl, rfl, ea _ s2, rfl, c, _, rfl, .inr ((tc.same s1).same s2).1, rfl, flat_ints _, _, rfl, ?_⟩
      show if inV (.int m) (r.2.2.map V.int) = true then _ else _
      rw [inV_int]
      cases cc : decide (m ∈ r.2.2) with
      | false => exact iteF (k2 cc _ (Same.refl _))
      | true => exact iteT ⟨_, rfl, k1 cc _ _ (Same.refl _) (.int _)⟩
    · have e := filter_map_range (fun w : Int => decide (w ∈ r.2.2)) PyData.int 0 (btw n rows x y)
      rw [List.length_map, e] at ry
      have e2 := ry.ofInts
      subst e2
      dsimp only [tNil]
      refine tupL_use (SqL.of hy2) fun q H3 s3 hq => ⟨(by show 3 ≤ sizeLine; decide), fun t ht => ?_⟩
      have st := same_upd (o := .tup [V.int (x : Int), .int (y : Int), .ref q]) ht
      refine k _ _ (((s1.trans s2).trans s3).trans st) (.tup (SqT.of upd_same) (by show 3 ≤ 1000; decide) (.cons (.int _) (.two (.int _) (TupI.rp ⟨seqT st hq, Nat.le_trans (List.length_filter_le _ _) tp.2⟩))))
theorem ok_is_cut (T : Txt K mg ad fd) : FnOk P w K mg base CX0 5 (ad 29) (fd 29) ["near", "rope", "other"] (spIsCut K) := by
  refine T.F_is_cut.ok sc_is_cut (fun vs H Q E h => ?_) (fun cdv A outer s H vs Q E hr h => ?_)
  · obtain ⟨N, u, v, ms, n, rows, r, o, rfl, _⟩ := h
    rfl
  · obtain ⟨N, u, v, ms, n, rows, r, o, rfl, hN, hu, hv, ⟨lo, hi, e1, e2, h1, h2⟩, ho, k⟩ := h
    refine ⟨_, (pss_cons (ps_asg (pv 1) (pg_tup rfl (pgs_cons (pg_name (i := 4) (x := "low") sc_is_cut.nd rfl (Or.inl rfl)) (pgs_cons (pg_name (i := 5) (x := "high") sc_is_cut.nd rfl (Or.inl rfl)) (pgs_cons (pg_name (i := 6) (x := "_") sc_is_cut.nd rfl (Or.inl rfl)) pgs_nil)))))
  (pss_cons (ps_if (PW.pt (pw_or (pt_cmpR op_lt (pv 4) (pe_ix (ixT K) (pv 2) pe_int (fun _ _ => rfl)) (nomark _)) (pw_or1 (pt_cmpR op_lt (pe_ix (ixT K) (pv 2) pe_int (fun _ _ => rfl)) (pv 5) (nomark _))))) (pss_one (ps_ret pe_bl))
  pss_nil)
  (pss_cons (ps_set (i := 3) sc_is_cut.nd rfl (Or.inl rfl) (pe_call (ok_things_in T) (hr.mono (by decide)) rfl T.m_things_in T.F_things_in.kp (b_things_in T) .nil pass0 (pa_cons (pv 0) (pa_cons (pv 2) pa_nil))))
  (pss_one (ps_ret (pe_and (pe_cmpR (inS K) (pv 4) (pv 3) (by with_unfolding_all rfl)) (pe_and (pe_cmpR (inS K) (pv 5) (pv 3) (by with_unfolding_all rfl)) (pe_one (pe_cmpR (eqD K (hu64 hr)) (pe_call (ok_cut_in T) (hr.mono (by decide)) rfl T.m_cut_in T.F_cut_in.kp (b_cut_in T) .nil pass0 (pa_cons (pv 0) (pa_cons (pv 2) (pa_cons (pv 4) (pa_cons (pv 5) pa_nil))))) (pv 1) (nomark _)))))))))), ?_⟩
    obtain ⟨a, c, rfl, ha, tc⟩ := rp_rope hu
    obtain ⟨b, d, rfl, hb, td⟩ := rp_rope hv
    have k' : ∀ z H', Same H H' → z = isCut n rows r o → Q (.bl z) H' := fun z H' s e => by rw [e]; exact k _ s
    refine ⟨_, rfl, a, _, rfl, ha, rfl, _, _, rfl, _, _, rfl, _, _, rfl, rfl, ?_⟩
    refine ⟨_, rfl, _, rfl, b, _, 0, _, rfl, rfl, hb, rfl, _, _, rfl, rfl, _, rfl, ?_⟩
    show if decide (r.1 < o.1) = true then _ else _
    cases c1 : decide (r.1 < o.1) with
    | true => exact iteT (iteT (k' _ _ (Same.refl _) (by unfold isCut; rw [c1]; rfl)))
    | false =>
      refine iteF ?_
      refine ⟨_, rfl, b, _, 1, _, rfl, rfl, hb, rfl, _, rfl, _, _, rfl, rfl, _, rfl, ?_⟩
      show if decide (o.2.1 < r.2.1) = true then _ else _
      cases c2 : decide (o.2.1 < r.2.1) with
      | true => exact iteT (k' _ _ (Same.refl _) (by unfold isCut; rw [c1, c2]; rfl))
      | false =>
        refine iteF ?_
        refine ⟨_, rfl, _, rfl, N, .ref b, ms, n, rows, o, rfl, hN, hv, ho, fun p H1 s1 tp => ?_⟩
        refine ⟨_, rfl, _, rfl, p, _, rfl, .inr tp.1, rfl, flat_ints _, _, rfl, ?_⟩
        show if inV (.int r.1) ((thingsR n rows o).map V.int) = true then _ else _
        rw [inV_int]
        cases c3 : decide (r.1 ∈ thingsR n rows o) with
        | false => exact iteF (k' _ _ s1 (by unfold isCut; rw [c1, c2, c3]; rfl))
        | true =>
          refine iteT ⟨_, rfl, _, rfl, p, _, rfl, .inr tp.1, rfl, flat_ints _, _, rfl, ?_⟩
          show if inV (.int r.2.1) ((thingsR n rows o).map V.int) = true then _ else _
          rw [inV_int]
          cases c4 : decide (r.2.1 ∈ thingsR n rows o) with
          | false => exact iteF (k' _ _ s1 (by unfold isCut; rw [c1, c2, c3, c4]; rfl))
          | true =>
            refine iteT ?_
            rw [e1, e2]
            refine ⟨_, rfl, _, rfl, _, rfl, _, rfl, N, .ref b, lo, hi, ms, n, rows, o, rfl, hN.same s1, hv.same s1, h1, h2, fun z H2 s2 rz => ?_⟩
            refine ⟨_, rfl, eqRo rz ((hu.same s1).same s2) ?_⟩
            exact k' _ _ (s1.trans s2) (by unfold isCut; rw [c1, c2, c3, c4, e1, e2]; rfl)
end
end LK
namespace LK
open PySem PySem.Spec PyProof.Rows L2
/-- a tie of things of the rope -/
def tieIn (n : Int) (rows : List (List Int)) (r : Rope) (d : PyData) : Bool := isTie n rows d && (dInts d).all fun x => decide (x ∈ thingsR n rows r)
def pairsL (l : List Int) : List (List Int) := l.flatMap fun x => (l.filter fun y => decide (x < y)).map fun y => [x, y]
def piecesL (n : Int) (rows : List (List Int)) (r : Rope) : List Rope := (pairsL (thingsR n rows r)).map fun t => cutR n rows r (t.getD 0 0) (t.getD 1 0)
def aboveL (n : Int) (rows : List (List Int)) (R : List Rope) : List Rope := (ropesL n rows).filter fun o => R.any fun r => isCut n rows r o
def spIsPiece (K : PySem.W.Frag) (C : Addr) : Sp := fun vs H Q E => ∃ (v u w : V) (d e : PyData) (n : Int) (rows : List (List Int)), vs = [v, u, w] ∧ Rp K H v (bookD n rows) ∧ Rp K H u d ∧ Rp K H w e ∧ BookIn n rows ∧
  (isRope n rows d = false → Rz C E H "rope" (-1)) ∧ (isRope n rows d = true → isRope n rows e = false → Rz C E H "other" (-1)) ∧ ∀ r o, d = dRope r → e = dRope o → isRope n rows d = true → isRope n rows e = true → ∀ H', Same H H' → Q (.bl (isCut n rows r o)) H'
def spCutRope (K : PySem.W.Frag) (C : Addr) : Sp := fun vs H Q E => ∃ (v u w : V) (d e : PyData) (n : Int) (rows : List (List Int)), vs = [v, u, w] ∧ Rp K H v (bookD n rows) ∧ Rp K H u d ∧ Rp K H w e ∧ BookIn n rows ∧
  (isRope n rows d = false → Rz C E H "rope" (-1)) ∧ (∀ r, d = dRope r → isRope n rows d = true → tieIn n rows r e = false → Rz C E H "tie" (-1)) ∧ ∀ r (x y : Int), d = dRope r → e = dTup [x, y] → isRope n rows d = true → tieIn n rows r e = true → ∀ z H', Same H H' → Rp K H' z (dRope (cutR n rows r x y)) → Q z H'
def spPieces (K : PySem.W.Frag) (C : Addr) : Sp := fun vs H Q E => ∃ (v u : V) (d : PyData) (n : Int) (rows : List (List Int)), vs = [v, u] ∧ Rp K H v (bookD n rows) ∧ Rp K H u d ∧ RowsIn n rows ∧ 0 ≤ n ∧ n ≤ 10 ∧
  (isRope n rows d = false → Rz C E H "rope" (-1)) ∧ ∀ r, d = dRope r → isRope n rows d = true → ∀ z H', Same H H' → Rp K H' z (dRopes (piecesL n rows r)) → Q z H'
def spAbove (K : PySem.W.Frag) (C : Addr) : Sp := fun vs H Q E => ∃ (v u : V) (d : PyData) (n : Int) (rows : List (List Int)), vs = [v, u] ∧ Rp K H v (bookD n rows) ∧ Rp K H u d ∧ BookR n rows ∧
  (isRopes n rows d = false → Rz C E H "ropes" (-1)) ∧ ∀ R, d = dRopes R → isRopes n rows d = true → ∀ z H', Same H H' → Rp K H' z (dRopes (aboveL n rows R)) → Q z H'
theorem dTup_back {a b : List Int} (h : dTup a = dTup b) : a = b := by
  have := congrArg dInts h
  rwa [dInts_tup, dInts_tup] at this
theorem dRope_inj {r t : Rope} (h : dRope r = dRope t) : r = t := by
  obtain ⟨a, b, c⟩ := r
  obtain ⟨x, y, z⟩ := t
  injection h with h
  injection h with h1 h
  injection h1 with h1
  injection h with h2 h
  injection h2 with h2
  injection h with h3 _
  exact Prod.ext h1 (Prod.ext h2 (dTup_back h3))
theorem ends_of {n : Int} {rows : List (List Int)} {r : Rope} (h : isRope n rows (dRope r) = true) : EndsOk n r := by
  obtain ⟨lo, hi, A, e, h1, h2, _⟩ := isRope_in h
  have := dRope_inj e
  subst this
  exact ⟨lo, hi, rfl, rfl, by omega, h2⟩
theorem ropesL_ends {n : Int} {rows : List (List Int)} {r : Rope} (h : r ∈ ropesL n rows) : EndsOk n r := by
  obtain ⟨t, ht, hr⟩ := List.mem_flatMap.mp (srtRopes_mem.mp h)
  obtain ⟨lo, hi, rfl, h1, h2, _⟩ := tiesL_in ht
  obtain ⟨A, _, rfl⟩ := List.mem_map.mp hr
  exact ⟨lo, hi, rfl, rfl, by omega, h2⟩
section
variable {P : Program} {w : World} {K : PySem.W.Frag} {mg : Str → Option Value} {base : Heap} {ad : Nat → Addr} {fd : Nat → FuncData}
theorem ok_is_piece (T : Txt K mg ad fd) : FnOk P w K mg base (L2.CX P w) 9 (ad 30) (fd 30) ["book", "rope", "other"] (spIsPiece K (ad 13)) := by
  refine T.F_is_piece.okX sc_is_piece (fun vs H Q E h => ?_) (fun cdv A outer s H vs Q E hr h => ?_)
  · obtain ⟨v, u, w, d, e, n, rows, rfl, _⟩ := h
    rfl
  · obtain ⟨v, u, w', d, e, n, rows, rfl, hv, hu, hw, bk, k1, k2, k3⟩ := h
    refine ⟨_, (pss_cons (ps_expr (pe_call (ok_need T) (hr.mono (by decide)) rfl T.m_need T.F_need.kp (b_need T) .nil (passes_call (takes_of rfl rfl rfl rfl) fun _ _ _ _ h => h) (pa_cons (pe_call (ok_is_rope T) (hr.mono (by decide)) rfl T.m_is_rope T.F_is_rope.kp (b_is_rope T) .nil pass0 (pa_cons (pv 0) (pa_cons (pv 1) pa_nil))) (pa_cons pe_str pa_nil))))
  (pss_cons (ps_expr (pe_call (ok_need T) (hr.mono (by decide)) rfl T.m_need T.F_need.kp (b_need T) .nil (passes_call (takes_of rfl rfl rfl rfl) fun _ _ _ _ h => h) (pa_cons (pe_call (ok_is_rope T) (hr.mono (by decide)) rfl T.m_is_rope T.F_is_rope.kp (b_is_rope T) .nil pass0 (pa_cons (pv 0) (pa_cons (pv 2) pa_nil))) (pa_cons pe_str pa_nil))))
  (pss_one (ps_ret (pe_call (ok_is_cut T) (hr.mono (by decide)) rfl T.m_is_cut T.F_is_cut.kp (b_is_cut T) .nil pass0 (pa_cons (pe_call (ok_near_masks T) (hr.mono (by decide)) rfl T.m_near_masks T.F_near_masks.kp (b_near_masks T) .nil pass0 (pa_cons (pv 0) pa_nil)) (pa_cons (pv 1) (pa_cons (pv 2) pa_nil)))))))), ?_⟩
    refine ⟨_, rfl, _, rfl, v, u, d, n, rows, rfl, hv, hu, bk, fun H1 s1 => ⟨_, _, rfl, fun c1 => ?_, fun c => (k1 c).same s1⟩⟩
    refine ⟨_, rfl, _, rfl, v, w', e, n, rows, rfl, hv.same s1, hw.same s1, bk, fun H2 s2 => ⟨_, _, rfl, fun c2 => ?_, fun c => (k2 c1 c).same (s1.trans s2)⟩⟩
    have s12 := s1.trans s2
    obtain ⟨lo, hi, A1, ed, a1, a2, _⟩ := isRope_in c1
    obtain ⟨lo2, hi2, A2, ee, b1, b2, _⟩ := isRope_in c2
    refine ⟨_, rfl, v, n, rows, rfl, hv.same s12, bk.1, bk.2.1, bk.2.2, fun N ms H3 s3 hN hm nk => ?_⟩
    have s13 := s12.trans s3
    refine ⟨_, rfl, _, rfl, N, u, w', ms, n, rows, ((lo : Int), (hi : Int), A1), ((lo2 : Int), (hi2 : Int), A2), rfl, ⟨hm, nk, bk⟩, by rw [← ed]; exact hu.same s13, by rw [← ee]; exact hw.same s13, ⟨lo, hi, rfl, rfl, by show (lo : Int) < n; omega, a2⟩, ⟨lo2, hi2, rfl, rfl, by show (lo2 : Int) < n; omega, b2⟩, fun H4 s4 => ?_⟩
    exact k3 _ _ ed ee c1 c2 H4 (s13.trans s4)
theorem ok_cut_rope (T : Txt K mg ad fd) : FnOk P w K mg base (L2.CX P w) 9 (ad 31) (fd 31) ["book", "rope", "tie"] (spCutRope K (ad 13)) := by
  refine T.F_cut_rope.okX sc_cut_rope (fun vs H Q E h => ?_) (fun cdv A outer s H vs Q E hr h => ?_)
  · obtain ⟨v, u, w, d, e, n, rows, rfl, _⟩ := h
    rfl
  · obtain ⟨v, u, w', d, e, n, rows, rfl, hv, hu, hw, bk, k1, k2, k3⟩ := h
    refine ⟨_, (pss_cons (ps_expr (pe_call (ok_need T) (hr.mono (by decide)) rfl T.m_need T.F_need.kp (b_need T) .nil (passes_call (takes_of rfl rfl rfl rfl) fun _ _ _ _ h => h) (pa_cons (pe_call (ok_is_rope T) (hr.mono (by decide)) rfl T.m_is_rope T.F_is_rope.kp (b_is_rope T) .nil pass0 (pa_cons (pv 0) (pa_cons (pv 1) pa_nil))) (pa_cons pe_str pa_nil))))
  (pss_cons (ps_set (i := 3) sc_cut_rope.nd rfl (Or.inr rfl) (pe_call (ok_near_masks T) (hr.mono (by decide)) rfl T.m_near_masks T.F_near_masks.kp (b_near_masks T) .nil pass0 (pa_cons (pv 0) pa_nil)))
  (pss_cons (ps_expr (pe_call (ok_need T) (hr.mono (by decide)) rfl T.m_need T.F_need.kp (b_need T) .nil (passes_call (takes_of rfl rfl rfl rfl) fun _ _ _ _ h => h) (pa_cons (pe_and (pe_call (ok_is_tie T) (hr.mono (by decide)) rfl T.m_is_tie T.F_is_tie.kp (b_is_tie T) .nil pass0 (pa_cons (pv 0) (pa_cons (pv 2) pa_nil))) (pe_one (pe_callB (allR K) (by rfl) T.g_all (by decide +kernel) (pa_cons (pe_lc (own := [("thing", 4)]) (g := gName 4) rfl sc_cut_rope.nd (piT K (pv 2)) (blkOk_by (N := ["book", "rope", "tie", "near", "thing"]) (sc := defScope s_cut_rope) (by decide +kernel)) (fun _ _ _ _ _ => (pg_name (i := 4) (x := "thing") sc_cut_rope.nd rfl (Or.inl rfl))) (fun _ _ _ _ _ => pts_nil) (fun _ _ _ _ _ => (pe_cmpR (inS K) (pv 4) (pe_call (ok_things_in T) (hr.mono (by decide)) rfl T.m_things_in T.F_things_in.kp (b_things_in T) .nil pass0 (pa_cons (pv 3) (pa_cons (pv 1) pa_nil))) (by with_unfolding_all rfl)))) pa_nil)))) (pa_cons pe_str pa_nil))))
  (pss_one (ps_ret (pe_call (ok_cut_in T) (hr.mono (by decide)) rfl T.m_cut_in T.F_cut_in.kp (b_cut_in T) .nil pass0 (pa_cons (pv 3) (pa_cons (pv 1) (pa_cons (pe_ix (ixT K) (pv 2) pe_int (fun _ _ => rfl)) (pa_cons (pe_ix (ixT K) (pv 2) pe_int (fun _ _ => rfl)) pa_nil)))))))))), ?_⟩
    refine ⟨_, rfl, _, rfl, v, u, d, n, rows, rfl, hv, hu, bk, fun H1 s1 => ⟨_, _, rfl, fun c1 => ?_, fun c => (k1 c).same s1⟩⟩
    obtain ⟨lo, hi, A1, ed, a1, a2, _⟩ := isRope_in c1
    obtain ⟨r, er⟩ : ∃ r : Rope, r = ((lo : Int), (hi : Int), A1) := ⟨_, rfl⟩
    rw [← er] at ed
    have hE : EndsOk n r := by rw [er]; exact ⟨lo, hi, rfl, rfl, by show (lo : Int) < n; omega, a2⟩
    clear er
    refine ⟨_, rfl, v, n, rows, rfl, hv.same s1, bk.1, bk.2.1, bk.2.2, fun N ms H2 s2 hN hm nk => ?_⟩
    have s12 := s1.trans s2
    have near2 : NearAt K H2 N ms n rows := ⟨hm, nk, bk⟩
    refine ⟨_, rfl, _, rfl, v, w', e, n, rows, rfl, hv.same s12, hw.same s12, fun H3 s3 => ?_⟩
    have s13 := s12.trans s3
    refine ⟨_, rfl, ?_⟩
    cases c2 : isTie n rows e with
    | false => exact iteF ⟨_, _, rfl, fun c => (by cases c), fun _ => (k2 r ed c1 (by unfold tieIn; rw [c2]; rfl)).same s13⟩
    | true =>
      refine iteT ?_
      obtain ⟨x, y, ee, b1, b2, b3⟩ := isTie_in c2
      have hw3 := hw.same s13
      rw [ee] at hw3
      obtain ⟨t, rfl, tt⟩ := hw3.tupI
      refine ⟨_, rfl, t, rfl, ⟨_, tt.1⟩, fun D hD => ?_⟩
      refine lcT (K := K) (xs := [(x : Int), (y : Int)].map V.int) (fun _ => true) (fun j => .bool (decide ([(x : Int), (y : Int)].getD j 0 ∈ thingsR n rows r))) hD tt.1 (by show 2 ≤ 1000; decide) (fun _ _ _ => rfl) (fun j z H4 hj s4 Q1 Q2 k1 k2 => ?_) (fun ys H4 s4 hy ry => ?_)
      · obtain ⟨m, hm2, rfl⟩ := intAt hj
        have em : [(x : Int), (y : Int)].getD j 0 = m := by rw [List.getD_eq_getElem?_getD, hm2]; rfl
        rw [em] at k1
        refine ⟨rfl, _, rfl, _, rfl, _, rfl, N, u, ms, n, rows, r, rfl, (near2.same s3).same s4, by rw [← ed]; exact (hu.same s13).same s4, hE, fun p H5 s5 tp => ⟨p, _, rfl, .inr tp.1, rfl, flat_ints _, ?_⟩⟩
        show Q1 (.bl (inV (.int m) ((thingsR n rows r).map V.int))) H5
        rw [inV_int]
        exact k1 rfl _ _ s5 (.bl _)
      · rw [filter_true] at ry
        have e9 := RpAll.ofBools (bs := [decide ((x : Int) ∈ thingsR n rows r), decide ((y : Int) ∈ thingsR n rows r)]) ry
        subst e9
        have eT : tieIn n rows r e = ([decide ((x : Int) ∈ thingsR n rows r), decide ((y : Int) ∈ thingsR n rows r)].all id) := by
          unfold tieIn
          rw [c2, ee, dInts_tup]
          rfl
        refine ⟨_, _, rfl, SqL.of hy, ?_⟩
        rw [← eT]
        have s14 := s13.trans s4
        refine ⟨_, _, rfl, fun c3 => ?_, fun c => (k2 r ed c1 c).same s14⟩
        refine ⟨_, rfl, _, rfl, _, rfl, t, _, 0, _, rfl, rfl, (tt.same s4).1, rfl, _, rfl, t, _, 1, _, rfl, rfl, (tt.same s4).1, rfl, N, u, x, y, ms, n, rows, r, rfl, (near2.same s3).same s4, by rw [← ed]; exact hu.same s14, by omega, b2, fun z H5 s5 rz => ?_⟩
        exact k3 r x y ed ee c1 c3 z H5 (s14.trans s5) rz
theorem ok_above_of (T : Txt K mg ad fd) : FnOk P w K mg base (L2.CX P w) 9 (ad 37) (fd 37) ["book", "ropes"] (spAbove K (ad 13)) := by
  refine T.F_above_of.okX sc_above_of (fun vs H Q E h => ?_) (fun cdv A outer s H vs Q E hr h => ?_)
  · obtain ⟨v, u, d, n, rows, rfl, _⟩ := h
    rfl
  · obtain ⟨v, u, d, n, rows, rfl, hv, hu, bkr, k1, k2⟩ := h
    refine ⟨_, (pss_cons (ps_expr (pe_call (ok_need T) (hr.mono (by decide)) rfl T.m_need T.F_need.kp (b_need T) .nil (passes_call (takes_of rfl rfl rfl rfl) fun _ _ _ _ h => h) (pa_cons (pe_call (ok_is_ropes T) (hr.mono (by decide)) rfl T.m_is_ropes T.F_is_ropes.kp (b_is_ropes T) .nil pass0 (pa_cons (pv 0) (pa_cons (pv 1) pa_nil))) (pa_cons pe_str pa_nil))))
  (pss_cons (ps_set (i := 2) sc_above_of.nd rfl (Or.inr rfl) (pe_call (ok_near_masks T) (hr.mono (by decide)) rfl T.m_near_masks T.F_near_masks.kp (b_near_masks T) .nil pass0 (pa_cons (pv 0) pa_nil)))
  (pss_one (ps_ret (pe_callTy (tupOf K) (by rfl) T.g_tuple (by decide +kernel) (pa_cons (pe_lc (own := [("other", 3)]) (g := gName 3) rfl sc_above_of.nd (piT K (pe_call (ok_ropes_of T) (hr.mono (by decide)) rfl T.m_ropes_of T.F_ropes_of.kp (b_ropes_of T) .nil pass0 (pa_cons (pv 0) pa_nil))) (blkOk_by (N := ["book", "ropes", "near", "other", "rope"]) (sc := defScope s_above_of) (by decide +kernel)) (fun _ _ _ _ _ => (pg_name (i := 3) (x := "other") sc_above_of.nd rfl (Or.inr rfl))) (fun _ _ _ _ _ => (pts_one (pt_val (pe_callB (anyR K) (by rfl) T.g_any (by decide +kernel) (pa_cons (pe_lc (own := [("rope", 4)]) (g := gName 4) rfl sc_above_of.nd (piT K (pv 1)) (blkOk_by (N := ["book", "ropes", "near", "other", "rope"]) (sc := { kind := PySem.ScopeKind.function, names := [ (PySem.Str.ofString ".0", PySem.NameKind.local), (PySem.Str.ofString "other", PySem.NameKind.cell), (PySem.Str.ofString "any", PySem.NameKind.globalImplicit), (PySem.Str.ofString "near", PySem.NameKind.cell), (PySem.Str.ofString "ropes", PySem.NameKind.cell)], isGenerator := false, isCoroutine := false, more := [] : PySem.Scope }) (by decide +kernel)) (fun _ _ _ _ _ => (pg_name (i := 4) (x := "rope") sc_above_of.nd rfl (Or.inl rfl))) (fun _ _ _ _ _ => pts_nil) (fun _ _ _ _ _ => (pe_call (ok_is_cut T) (hr.mono (by decide)) rfl T.m_is_cut T.F_is_cut.kp (b_is_cut T) .nil pass0 (pa_cons (pv 2) (pa_cons (pv 4) (pa_cons (pv 3) pa_nil)))))) pa_nil))))) (fun _ _ _ _ _ => (pv 3))) pa_nil)))))), ?_⟩
    have bk : BookIn n rows := ⟨bkr.inn, bkr.n0, by have := bkr.n10; omega⟩
    refine ⟨_, rfl, _, rfl, v, u, d, n, rows, rfl, hv, hu, bk, fun H1 s1 => ⟨_, _, rfl, fun c1 => ?_, fun c => (k1 c).same s1⟩⟩
    obtain ⟨R, ed, hR⟩ : ∃ R, d = dRopes R ∧ ∀ r ∈ R, EndsOk n r := by
      cases d with
      | tuple ds =>
        have c2 : (ds.all (isRope n rows) && risingR (ds.map ropeOfD)) = true := c1
        rw [Bool.and_eq_true] at c2
        refine ⟨ds.map ropeOfD, ?_, fun r hr => ?_⟩
        · unfold dRopes
          rw [List.map_map]
          congr 1
          refine (List.map_id ds).symm.trans (List.map_congr_left fun d hd => ?_)
          obtain ⟨lo, hi, A1, e, _⟩ := isRope_in (List.all_eq_true.mp c2.1 d hd)
          exact (rope_back e).symm
        · obtain ⟨e, he, rfl⟩ := List.mem_map.mp hr
          have h1 := List.all_eq_true.mp c2.1 e he
          obtain ⟨lo, hi, A1, e1, _⟩ := isRope_in h1
          refine ends_of (rows := rows) ?_
          rw [rope_back e1]
          exact h1
      | _ => cases c1
    refine ⟨_, rfl, v, n, rows, rfl, hv.same s1, bk.1, bk.2.1, bk.2.2, fun N ms H2 s2 hN hm nk => ?_⟩
    have s12 := s1.trans s2
    have near2 : NearAt K H2 N ms n rows := ⟨hm, nk, bk⟩
    refine ⟨_, rfl, v, n, rows, rfl, hv.same s12, bkr, fun uo H3 s3 ro => ?_⟩
    have s13 := s12.trans s3
    obtain ⟨O, os, rfl, hO, lO, rO⟩ := Rp.tupA (ds := (ropesL n rows).map dRope) ro
    have los := rO.length
    rw [List.length_map] at los
    have hu3 := hu.same s13
    rw [ed] at hu3
    obtain ⟨UA, us, rfl, hU, lU, rU⟩ := Rp.tupA (ds := R.map dRope) hu3
    have lus := rU.length
    rw [List.length_map] at lus
    refine ⟨O, rfl, ⟨_, hO⟩, fun D hD => ?_⟩
    refine lcT (K := K) (xs := os) (fun j => R.any fun r => isCut n rows r ((ropesL n rows).getD j (0, 0, []))) (fun j => dRope ((ropesL n rows).getD j (0, 0, []))) hD hO lO (fun _ _ _ => noL_rope _) (fun j z H4 hj s4 Q1 Q2 k1 k2 => ?_) (fun ys H4 s4 hy ry => ?_)
    · obtain ⟨e, he, re⟩ := rO.get hj
      rw [List.getElem?_map] at he
      obtain ⟨o, ho, eo⟩ := Option.map_eq_some_iff.mp he
      subst eo
      have em : (ropesL n rows).getD j (0, 0, []) = o := by rw [List.getD_eq_getElem?_getD, ho]; rfl
      rw [em] at k1 k2
      have hoE := ropesL_ends (List.mem_of_getElem? ho)
      refine ⟨rfl, _, rfl, UA, rfl, ⟨_, seqT s4 hU⟩, fun D2 hD2 => ?_⟩
      refine lcT (K := K) (xs := us) (fun _ => true) (fun i => .bool (isCut n rows (R.getD i (0, 0, [])) o)) hD2 (seqT s4 hU) lU (fun _ _ _ => rfl) (fun i x H5 hi s5 Q3 Q4 k3 k4 => ?_) (fun bs H5 s5 hb rb => ?_)
      · obtain ⟨e, he, rr⟩ := rU.get hi
        rw [List.getElem?_map] at he
        obtain ⟨r, hr2, er⟩ := Option.map_eq_some_iff.mp he
        subst er
        have em2 : R.getD i (0, 0, []) = r := by rw [List.getD_eq_getElem?_getD, hr2]; rfl
        rw [em2] at k3
        exact ⟨rfl, _, rfl, _, rfl, _, rfl, N, x, z, ms, n, rows, r, o, rfl, ((near2.same s3).same s4).same s5, (rr.same s4).same s5, (re.same s4).same s5, hR r (List.mem_of_getElem? hr2), hoE, fun H6 s6 => k3 rfl _ _ s6 (.bl _)⟩
      · rw [filter_true, lus] at rb
        have e := RpAll.ofBools (bs := (List.range R.length).map fun i => isCut n rows (R.getD i (0, 0, [])) o) (by rw [List.map_map]; exact rb)
        subst e
        refine ⟨_, _, rfl, SqL.of hb, ?_⟩
        have e2 : ((List.range R.length).map fun i => isCut n rows (R.getD i (0, 0, [])) o).any id = R.any fun r => isCut n rows r o := any_range (fun r => isCut n rows r o) (0, 0, []) R
        rw [e2]
        refine ⟨_, rfl, ?_⟩
        cases cc : R.any fun r => isCut n rows r o with
        | false => exact iteF (k2 cc _ s5)
        | true => exact iteT ⟨_, rfl, k1 cc _ _ s5 ((re.same s4).same s5)⟩
    · rw [los, filter_map_range (fun o : Rope => R.any fun r => isCut n rows r o) dRope (0, 0, []) (ropesL n rows)] at ry
      dsimp only [tNil]
      refine tupL_use (SqL.of hy) fun q H5 s5 hq => ?_
      have ly := ry.length
      rw [List.length_map] at ly
      have := List.length_filter_le (fun o => R.any fun r => isCut n rows r o) (ropesL n rows)
      exact k2 R ed c1 _ H5 ((s13.trans s4).trans s5) (.tup hq (by omega) (ry.same s5))
end
end LK
namespace LK
open PySem PySem.Spec PyProof.Rows L2
theorem things_len {n : Int} {rows : List (List Int)} (h10 : n ≤ 10) {r : Rope} (h : EndsOk n r) : (thingsR n rows r).length ≤ 10 := by
  obtain ⟨lo, hi, e1, e2, h1, h2⟩ := h
  have := btw_len (rows := rows) h10 (x := r.1) (y := r.2.1) (by omega) (by omega)
  unfold thingsR
  rw [List.length_append, List.length_cons]
  show _ + 1 + 1 ≤ 10
  omega
theorem things_in {n : Int} {rows : List (List Int)} {r : Rope} (h : EndsOk n r) {x : Int} (hx : x ∈ thingsR n rows r) : ∃ a : Nat, x = a ∧ (a : Int) < n := by
  obtain ⟨lo, hi, e1, e2, h1, h2⟩ := h
  unfold thingsR at hx
  rcases List.mem_append.mp hx with hx | hx
  · rcases List.mem_cons.mp hx with rfl | hx
    · exact ⟨lo, e1, h1⟩
    · obtain ⟨h3, h4, _⟩ := btw_mem.mp hx
      exact ⟨x.toNat, by omega, by omega⟩
  · rw [List.mem_singleton] at hx
    subst hx
    exact ⟨hi, e2, h2⟩
theorem pairs_len (l : List Int) : ∀ k : List Int, (k.flatMap fun x => (l.filter fun y => decide (x < y)).map fun y => [x, y]).length ≤ k.length * l.length
  | [] => by simp
  | x :: k => by
    rw [List.flatMap_cons, List.length_append, List.length_map, List.length_cons, Nat.add_mul, Nat.one_mul]
    have := pairs_len l k
    have := List.length_filter_le (fun y => decide (x < y)) l
    omega
def pairsTo (l : List Int) (i : Nat) : List (List Int) := (l.take i).flatMap fun x => (l.filter fun y => decide (x < y)).map fun y => [x, y]
section
variable {P : Program} {w : World} {K : PySem.W.Frag} {mg : Str → Option Value} {base : Heap} {ad : Nat → Addr} {fd : Nat → FuncData}
theorem ok_pieces_of (T : Txt K mg ad fd) : FnOk P w K mg base (L2.CX P w) 9 (ad 32) (fd 32) ["book", "rope"] (spPieces K (ad 13)) := by
  refine T.F_pieces_of.okX sc_pieces_of (fun vs H Q E h => ?_) (fun cdv A outer s H vs Q E hr h => ?_)
  · obtain ⟨v, u, d, n, rows, rfl, _⟩ := h
    rfl
  · obtain ⟨v, u, d, n, rows, rfl, hv, hu, hin, h0, h10, k1, k2⟩ := h
    refine ⟨_, (pss_cons (ps_expr (pe_call (ok_need T) (hr.mono (by decide)) rfl T.m_need T.F_need.kp (b_need T) .nil (passes_call (takes_of rfl rfl rfl rfl) fun _ _ _ _ h => h) (pa_cons (pe_call (ok_is_rope T) (hr.mono (by decide)) rfl T.m_is_rope T.F_is_rope.kp (b_is_rope T) .nil pass0 (pa_cons (pv 0) (pa_cons (pv 1) pa_nil))) (pa_cons pe_str pa_nil))))
  (pss_cons (ps_set (i := 2) sc_pieces_of.nd rfl (Or.inr rfl) (pe_call (ok_near_masks T) (hr.mono (by decide)) rfl T.m_near_masks T.F_near_masks.kp (b_near_masks T) .nil pass0 (pa_cons (pv 0) pa_nil)))
  (pss_cons (ps_set (i := 3) sc_pieces_of.nd rfl (Or.inr rfl) (pe_call (ok_things_in T) (hr.mono (by decide)) rfl T.m_things_in T.F_things_in.kp (b_things_in T) .nil pass0 (pa_cons (pv 2) (pa_cons (pv 1) pa_nil))))
  (pss_cons (ps_setLc2 (i := 4) (own := [("low", 5), ("high", 6)]) (vs1 := [6]) (g := gName 5) (g1 := gName 6) rfl sc_pieces_of.nd rfl rfl (sw_true rfl rfl rfl (by decide +kernel)) (piT K (pv 3)) (blkOk_by (N := ["book", "rope", "near", "things", "pairs", "low", "high"]) (sc := defScope s_pieces_of) (by decide +kernel)) (by decide) (fun _ _ _ _ _ => (pg_name (i := 5) (x := "low") sc_pieces_of.nd rfl (Or.inl rfl))) (fun _ _ _ _ _ => pts_nil) (fun _ _ _ _ _ => (piT K (pv 3))) (fun _ _ _ _ _ => (pg_name (i := 6) (x := "high") sc_pieces_of.nd rfl (Or.inl rfl))) (fun _ _ _ _ _ => (pts_one (pt_cmpR op_lt (pv 5) (pv 6) (nomark _)))) (fun _ _ _ _ _ => (pe_tup (pa_cons (pv 5) (pa_cons (pv 6) pa_nil)))))
  (pss_one (ps_ret (pe_callTy (tupOf K) (by rfl) T.g_tuple (by decide +kernel) (pa_cons (pe_lc (own := [("low", 5), ("high", 6)]) (g := gTup K 2 (gCons (gName 5) (gCons (gName 6) gNil))) rfl sc_pieces_of.nd (piL K (pv 4)) (blkOk_by (N := ["book", "rope", "near", "things", "pairs", "low", "high"]) (sc := defScope s_pieces_of) (by decide +kernel)) (fun _ _ _ _ _ => (pgT K (n := 2) rfl (pgs_cons (pg_name (i := 5) (x := "low") sc_pieces_of.nd rfl (Or.inl rfl)) (pgs_cons (pg_name (i := 6) (x := "high") sc_pieces_of.nd rfl (Or.inl rfl)) pgs_nil)))) (fun _ _ _ _ _ => pts_nil) (fun _ _ _ _ _ => (pe_call (ok_cut_in T) (hr.mono (by decide)) rfl T.m_cut_in T.F_cut_in.kp (b_cut_in T) .nil pass0 (pa_cons (pv 2) (pa_cons (pv 1) (pa_cons (pv 5) (pa_cons (pv 6) pa_nil))))))) pa_nil)))))))), ?_⟩
    have bk : BookIn n rows := ⟨hin, h0, by omega⟩
    refine ⟨_, rfl, _, rfl, v, u, d, n, rows, rfl, hv, hu, bk, fun H1 s1 => ⟨_, _, rfl, fun c1 => ?_, fun c => (k1 c).same s1⟩⟩
    obtain ⟨lo, hi, A1, ed, a1, a2, _⟩ := isRope_in c1
    obtain ⟨r, er⟩ : ∃ r : Rope, r = ((lo : Int), (hi : Int), A1) := ⟨_, rfl⟩
    rw [← er] at ed
    have hE : EndsOk n r := by rw [er]; exact ⟨lo, hi, rfl, rfl, by show (lo : Int) < n; omega, a2⟩
    clear er
    have hu := by rw [ed] at hu; exact hu
    refine ⟨_, rfl, v, n, rows, rfl, hv.same s1, hin, h0, by omega, fun N ms H2 s2 hN hm nk => ?_⟩
    have s12 := s1.trans s2
    have near2 : NearAt K H2 N ms n rows := ⟨hm, nk, bk⟩
    refine ⟨_, rfl, _, rfl, N, u, ms, n, rows, r, rfl, near2, hu.same s12, hE, fun p H3 s3 tp => ?_⟩
    have s13 := s12.trans s3
    obtain ⟨L, eL⟩ : ∃ L, L = thingsR n rows r := ⟨_, rfl⟩
    have lL : L.length ≤ 10 := eL ▸ things_len h10 hE
    have mL : ∀ x ∈ L, ∃ a : Nat, x = a ∧ (a : Int) < n := fun x hx => things_in hE (eL ▸ hx)
    rw [← eL] at tp
    have lp : ∀ i, (pairsTo L i).length ≤ 100 := fun i => by
      have := pairs_len L (L.take i)
      have h1 : (L.take i).length ≤ 10 := by rw [List.length_take]; omega
      have h2 : (L.take i).length * L.length ≤ 10 * 10 := Nat.mul_le_mul h1 lL
      unfold pairsTo
      omega
    refine ⟨_, rfl, p, rfl, ⟨_, tp.1⟩, fun D hD => ?_⟩
    let Pv : Nat → Hp → Prop := fun i H4 => ∃ ys, Fill H3 D H4 ys ∧ RpAll K H4 ys ((pairsTo L i).map dTup)
    refine ⟨fun i m H4 => m = (L.map V.int).length - i ∧ i ≤ (L.map V.int).length ∧ Pv i H4, ⟨_, rfl, Nat.zero_le _, [], Fill.start hD, .nil⟩, ?_⟩
    rintro i m H4 ⟨rfl, hi, ys0, fl0, ry0⟩
    have s4 : Same H3 H4 := fl0.1
    by_cases hlt : i < (L.map V.int).length
    · obtain ⟨x, hx⟩ : ∃ x, (L.map V.int)[i]? = some x := ⟨(L.map V.int)[i], List.getElem?_eq_getElem hlt⟩
      refine .inr ⟨⟨_, _, seqT s4 tp.1, hx⟩, Pv (i + 1), fun H' p' => ⟨(L.map V.int).length - (i + 1), by omega, rfl, hlt, p'⟩, fun x' H5 y => ?_⟩
      obtain ⟨e3, y⟩ := y
      subst e3
      have ex := y _ (seqT s4 tp.1)
      rw [hx] at ex
      have ex := (Option.some.inj ex).symm
      subst ex
      obtain ⟨a, ha, rfl⟩ := intAt hx
      let inn : Nat → List (List Int) := fun j => ((L.take j).filter fun y => decide (a < y)).map fun y => [a, y]
      have eP : pairsTo L (i + 1) = pairsTo L i ++ inn L.length := by
        show ((L.take (i + 1)).flatMap _) = ((L.take i).flatMap _) ++ ((L.take L.length).filter _).map _
        rw [List.take_succ, ha, List.flatMap_append, List.take_length]
        congr 1
        exact List.flatMap_singleton _ _
      have pl := lp (i + 1)
      rw [eP, List.length_append] at pl
      have innL : ∀ j, (inn j).length ≤ (inn L.length).length := fun j => by
        show (((L.take j).filter _).map _).length ≤ (((L.take L.length).filter _).map _).length
        rw [List.length_map, List.length_map, List.take_length]
        exact ((List.take_sublist j L).filter _).length_le
      refine ⟨rfl, ?_⟩
      show if true = true then _ else Pv (i + 1) H5
      rw [if_pos rfl]
      refine ⟨_, rfl, p, rfl, ⟨_, seqT s4 tp.1⟩, ?_⟩
      let Pw : Nat → Hp → Prop := fun j H7 => ∃ ys, Fill H3 D H7 ys ∧ RpAll K H7 ys ((pairsTo L i ++ inn j).map dTup)
      refine ⟨fun j m H7 => m = (L.map V.int).length - j ∧ j ≤ (L.map V.int).length ∧ Pw j H7, ⟨_, rfl, Nat.zero_le _, ys0, fl0, by show RpAll K H5 ys0 ((pairsTo L i ++ []).map dTup); rw [List.append_nil]; exact ry0⟩, ?_⟩
      rintro j m H7 ⟨rfl, hj, ys, fl, ry⟩
      have s7 : Same H3 H7 := fl.1
      by_cases hjl : j < (L.map V.int).length
      · obtain ⟨z, hz⟩ : ∃ z, (L.map V.int)[j]? = some z := ⟨(L.map V.int)[j], List.getElem?_eq_getElem hjl⟩
        refine .inr ⟨⟨_, _, seqT s7 tp.1, hz⟩, Pw (j + 1), fun H' p' => ⟨(L.map V.int).length - (j + 1), by omega, rfl, hjl, p'⟩, fun x' H8 y => ?_⟩
        obtain ⟨e8, y⟩ := y
        subst e8
        have ex := y _ (seqT s7 tp.1)
        rw [hz] at ex
        have ex := (Option.some.inj ex).symm
        subst ex
        obtain ⟨b, hb, rfl⟩ := intAt hz
        have eI : inn (j + 1) = inn j ++ (if decide (a < b) = true then [[a, b]] else []) := by
          show ((L.take (j + 1)).filter _).map _ = ((L.take j).filter _).map _ ++ _
          rw [List.take_succ, hb, List.filter_append, List.map_append]
          congr 1
          show (List.filter _ [b]).map _ = _
          rw [List.filter_cons]
          split <;> rfl
        refine ⟨rfl, _, rfl, _, rfl, _, _, rfl, rfl, _, rfl, ?_⟩
        show if decide (a < b) = true then _ else Pw (j + 1) H8
        cases cc : decide (a < b) with
        | false =>
          refine iteF ⟨ys, fl, ?_⟩
          rw [eI, cc]
          show RpAll K H8 ys ((pairsTo L i ++ (inn j ++ [])).map dTup)
          rw [List.append_nil]
          exact ry
        | true =>
          refine iteT ?_
          have lys := ry.length
          rw [List.length_map, List.length_append] at lys
          have := innL j
          refine ⟨_, rfl, _, rfl, (by show 2 ≤ sizeLine; decide), fun q hq => ?_⟩
          have sq := same_upd (o := .tup [V.int a, .int b]) hq
          have rq : Rp K (upd H8 q (.tup [V.int a, .int b])) (.ref q) (dTup [a, b]) := TupI.rp ⟨SqT.of upd_same, by show 2 ≤ 1000; decide⟩
          have hD8 := fl.at sq
          refine ⟨ys, hD8, small1000 (by omega), ys ++ [.ref q], fl.push hD sq, ?_⟩
          rw [eI, cc]
          show RpAll K _ _ ((pairsTo L i ++ (inn j ++ [[a, b]])).map dTup)
          rw [← List.append_assoc, List.map_append]
          refine RpAll.upd hD8 ?_ ((ry.same sq).app (.one rq))
          have := noLs_rows ((pairsTo L i ++ inn j) ++ [[a, b]])
          rw [List.map_append] at this
          exact this
      · have hje : j = (L.map V.int).length := by omega
        refine .inl ⟨⟨_, seqT s7 tp.1, by omega⟩, ys, fl, ?_⟩
        rw [eP]
        rw [hje, List.length_map] at ry
        exact ry
    · have hie : i = (L.map V.int).length := by omega
      subst hie
      refine .inl ⟨⟨_, seqT s4 tp.1, Nat.le_refl _⟩, ?_⟩
      rw [List.length_map] at ry0
      have eF : pairsTo L L.length = pairsL L := by
        show (L.take L.length).flatMap _ = _
        rw [List.take_length]
        rfl
      rw [eF] at ry0
      have lF : (pairsL L).length ≤ 100 := eF ▸ lp L.length
      dsimp only [tNil]
      have s14 := s13.trans s4
      have lys := ry0.length
      rw [List.length_map] at lys
      refine ⟨_, rfl, D, rfl, ⟨_, SqL.of fl0.2⟩, fun D2 hD2 => ?_⟩
      have tl : ∀ t ∈ pairsL L, ∃ a b : Nat, t = [(a : Int), (b : Int)] ∧ (a : Int) < n ∧ (b : Int) < n := fun t ht => by
        obtain ⟨x, hx, hy⟩ := List.mem_flatMap.mp ht
        obtain ⟨y, hy2, rfl⟩ := List.mem_map.mp hy
        obtain ⟨a, rfl, ha⟩ := mL x hx
        obtain ⟨b, rfl, hb⟩ := mL y (List.mem_filter.mp hy2).1
        exact ⟨a, b, rfl, ha, hb⟩
      refine lcL (K := K) (xs := ys0) (fun _ => true) (fun j => dRope (cutR n rows r (((pairsL L).getD j []).getD 0 0) (((pairsL L).getD j []).getD 1 0))) hD2 (SqL.of fl0.2) (by omega) (fun _ _ _ => noL_rope _) (fun j z H5 hj s5 Q1 Q2 q1 q2 => ?_) (fun ys H5 s5 hy ry => ?_)
      · obtain ⟨t, c, ht, rfl, tc⟩ := ry0.row hj
        obtain ⟨a, b, et, ha, hb⟩ := tl t (List.mem_of_getElem? ht)
        have em : (pairsL L).getD j [] = t := by rw [List.getD_eq_getElem?_getD, ht]; rfl
        rw [em, et] at q1
        rw [et] at tc
        have tc5 := tc.same s5
        refine ⟨c, _, rfl, tc5.1, rfl, _, _, rfl, _, _, rfl, rfl, rfl, _, rfl, _, rfl, _, rfl, _, rfl, N, u, a, b, ms, n, rows, r, rfl, ((near2.same s3).same s4).same s5, (hu.same s14).same s5, ha, hb, fun z H6 s6 rz => ?_⟩
        exact q1 rfl _ _ s6 rz
      · have ef : (List.range ys0.length).filter (fun _ => true) = List.range ys0.length := filter_true _
        rw [ef] at ry
        have e9 : ((List.range ys0.length).map fun j => dRope (cutR n rows r (((pairsL L).getD j []).getD 0 0) (((pairsL L).getD j []).getD 1 0))) = (piecesL n rows r).map dRope := by
          unfold piecesL
          rw [← eL, List.map_map, lys]
          exact map_range (fun t : List Int => dRope (cutR n rows r (t.getD 0 0) (t.getD 1 0))) [] (pairsL L)
        rw [e9] at ry
        have ly := ry.length
        rw [List.length_map] at ly
        have lpc : (piecesL n rows r).length ≤ 100 := by
          unfold piecesL
          rw [List.length_map, ← eL]
          exact lF
        dsimp only [tNil]
        refine tupL_use (SqL.of hy) fun q H6 s6 hq => ?_
        exact k2 r ed c1 _ H6 ((s14.trans s5).trans s6) (.tup hq (by omega) (ry.same s6))
end
end LK
namespace LK
open PySem PySem.Spec PyProof.Rows L2
def spDraws (K : PySem.W.Frag) : Sp := fun vs H Q _ => ∃ (a : Addr) (ns : List Int), vs = [.ref a] ∧ SqL K H a (ns.map V.int) ∧ ns.length ≤ 63 ∧ ∀ S H', Same H H' → H S = none → StOk H' S S → Q (.ref S) H'
def spTake : Sp := fun vs H Q _ => ∃ (S : Addr) (many : Int), vs = [.ref S, .int many] ∧ StOk H S S ∧ 0 < many ∧ ∀ r H', 0 ≤ r → r < many → Mv S S H H' → Q (.int r) H'
def cutI (xs : List Int) (lo hi : Option Int) : List Int := (xs.drop (HT.sIx xs.length 0 lo)).take (HT.sIx xs.length xs.length hi - HT.sIx xs.length 0 lo)
theorem cutI_eq {xs : List Int} {lo hi : Option Int} : cutV (xs.map V.int) lo hi = (cutI xs lo hi).map V.int := by
  unfold cutV cutI
  rw [List.length_map, List.map_take, List.map_drop]
theorem cutI_len (xs : List Int) (lo hi : Option Int) : (cutI xs lo hi).length ≤ xs.length := by
  unfold cutI
  rw [List.length_take, List.length_drop]
  omega
theorem put_arg {A : Type} {a b : A} {p : A → Prop} (e : a = b) (h : p b) : p a := e ▸ h
theorem put_same {H H' : Hp} {D : Addr} {o : HO} (n : H D = none) (s : Same H H') : Same H (upd H' D o) := fun b u e => by
  rw [upd_ne]
  · exact s _ _ e
  · rintro rfl
    rw [n] at e
    cases e
def spTimes : Sp := fun vs H Q _ => ∃ (lo n : Nat), vs = [.int (lo : Int), .int ((lo + n : Nat) : Int)] ∧ lo + n ≤ 1000 ∧ ∀ r : Int, 1 ≤ r → r ≤ (((lo + n) ^ n : Nat) : Int) → Q (.int r) H
section
variable {P : Program} {w : World} {K : PySem.W.Frag} {mg : Str → Option Value} {base : Heap} {ad : Nat → Addr} {fd : Nat → FuncData}
theorem ok__law_take (T : Txt K mg ad fd) : FnOk P w K mg base CX0 1 (ad 40) (fd 40) ["_law_d", "_law_many"] spTake := by
  refine T.F__law_take.ok sc__law_take (fun vs H Q E h => ?_) (fun cdv A outer s H vs Q E hr h => ?_)
  · obtain ⟨S, many, rfl, _⟩ := h
    rfl
  · obtain ⟨S, many, rfl, st, h0, k⟩ := h
    refine ⟨_, (pss_cons (ps_if (pt_cmpR op_eq (pe_callB (lenS K) (by rfl) T.g_len (by decide +kernel) (pa_cons (pv 0) pa_nil)) pe_int (nomark _)) (pss_one (ps_ret pe_int))
  pss_nil)
  (pss_one (ps_ret (pe_op op_mod (pe_callTy call_int1 (by rfl) T.g_int (by decide +kernel) (pa_cons (pe_bm0 PySem.F.plainAttrs_list PySem.F.slot_list_pop PySem.F.type_list_pop mt_pop (pv 0)) pa_nil)) (pv 1))))), ?_⟩
    obtain ⟨ds, e1, h1⟩ := st.ex
    refine ⟨_, rfl, S, _, rfl, .inl (SqL.of e1), rfl, _, rfl, ?_⟩
    rw [List.length_map]
    cases hd : ds with
    | nil => exact iteT (k 0 H (by decide) h0 (Mv.refl st))
    | cons d dr =>
      refine iteF ?_
      rw [hd] at e1 h1
      obtain ⟨y, hy⟩ : ∃ y, (d :: dr)[dr.length]? = some y := ⟨_, List.getElem?_eq_getElem (by simp)⟩
      have hy2 : ((d :: dr).map V.int)[((d :: dr).map V.int).length - 1]? = some (.int y) := by
        rw [List.length_map]
        show ((d :: dr).map V.int)[dr.length]? = _
        rw [List.getElem?_map, hy]
        rfl
      refine ⟨_, rfl, .inl ⟨rfl, _, SqL.of e1⟩, S, _, .int y, rfl, rfl, e1, hy2, .inl ⟨_, rfl, _, rfl, _, _, rfl, rfl, h0, ?_⟩⟩
      refine k _ _ (Int.emod_nonneg _ (by omega)) (Int.emod_lt_of_pos _ h0) ⟨by rw [hide_upd_self]; exact Same.refl _, ⟨(d :: dr).dropLast, ?_, fun z hz => h1 z (List.dropLast_subset _ hz)⟩⟩
      rw [upd_same, List.map_dropLast]
theorem ok__law_draws (T : Txt K mg ad fd) : FnOk P w K mg base CX0 1 (ad 39) (fd 39) ["_law_row"] (spDraws K) := by
  refine T.F__law_draws.ok sc__law_draws (fun vs H Q E h => ?_) (fun cdv A outer s H vs Q E hr h => ?_)
  · obtain ⟨a, ns, rfl, _⟩ := h
    rfl
  · obtain ⟨a, ns, rfl, hs, hl, k⟩ := h
    refine ⟨_, (pss_cons (ps_set (i := 1) sc__law_draws.nd rfl (Or.inl rfl) pe_int)
  (pss_cons (ps_for PassesOwn.never rfl (piL K (pv 0)) (pg_name (i := 2) (x := "_law_c") sc__law_draws.nd rfl (Or.inl rfl))
  (pss_one (ps_set (i := 1) sc__law_draws.nd rfl (Or.inl rfl) (pe_op op_mod (pe_op op_add (pe_op op_add (pe_op op_mul (pv 1) pe_int) (pe_op op_mod (pe_callTy call_int1 (by rfl) T.g_int (by decide +kernel) (pa_cons (pv 2) pa_nil)) pe_int)) pe_int) pe_int))))
  (pss_cons (ps_set (i := 3) sc__law_draws.nd rfl (Or.inl rfl) (pe_op op_mod (pe_op op_mul (pv 1) pe_int) pe_int))
  (pss_cons (ps_set (i := 4) sc__law_draws.nd rfl (Or.inl rfl) (pe_callB (sumR K) (by rfl) T.g_sum (by decide +kernel) (pa_cons (pe_lc (own := [("_law_c", 2)]) (g := gName 2) rfl sc__law_draws.nd (piL K (pe_slice (slL K) (pv 0) po_none (po_some pe_int))) (blkOk_by (N := ["_law_row", "_law_x", "_law_c", "_law_y", "_law_big", "_law_out", "_law_k"]) (sc := defScope s__law_draws) (by decide +kernel)) (fun _ _ _ _ _ => (pg_name (i := 2) (x := "_law_c") sc__law_draws.nd rfl (Or.inl rfl))) (fun _ _ _ _ _ => (pts_one (pt_cmpR op_ge (pv 2) (pe_op op_pow pe_int pe_int) (nomark _)))) (fun _ _ _ _ _ => (pv 2))) pa_nil)))
  (pss_cons (ps_set (i := 5) sc__law_draws.nd rfl (Or.inl rfl) (pe_lst pa_nil))
  (pss_cons (ps_for PassesOwn.never rfl (pi_range1 rfl T.g_range (pa_cons pe_int pa_nil)) (pg_name (i := 6) (x := "_law_k") sc__law_draws.nd rfl (Or.inl rfl))
  (pss_cons (ps_set (i := 1) sc__law_draws.nd rfl (Or.inl rfl) (pe_op op_mod (pe_op op_add (pe_op op_mul (pv 1) pe_int) (pe_callB (sumR K) (by rfl) T.g_sum (by decide +kernel) (pa_cons (pe_lc (own := [("_law_c", 2)]) (g := gName 2) rfl sc__law_draws.nd (piL K (pe_slice (slL K) (pv 0) (po_some (pv 6)) (po_some (pe_op op_add (pv 6) pe_int)))) (blkOk_by (N := ["_law_row", "_law_x", "_law_c", "_law_y", "_law_big", "_law_out", "_law_k"]) (sc := defScope s__law_draws) (by decide +kernel)) (fun _ _ _ _ _ => (pg_name (i := 2) (x := "_law_c") sc__law_draws.nd rfl (Or.inl rfl))) (fun _ _ _ _ _ => pts_nil) (fun _ _ _ _ _ => (pe_op op_mod (pe_callTy call_int1 (by rfl) T.g_int (by decide +kernel) (pa_cons (pv 2) pa_nil)) pe_int))) pa_nil))) pe_int))
  (pss_cons (ps_set (i := 3) sc__law_draws.nd rfl (Or.inl rfl) (pe_op op_mod (pe_op op_add (pe_op op_mul (pv 3) pe_int) (pv 1)) pe_int))
  (pss_cons (ps_expr (pe_bmK K PySem.F.plainAttrs_list PySem.F.slot_list_append PySem.F.type_list_append mt_append (pv 5) (pa_cons (pe_op op_add (pe_op op_mul (pv 1) pe_int) (pv 3)) pa_nil)))
  (pss_one (ps_if (pt_cmpR op_gt (pv 4) pe_int (nomark _)) (pss_cons (ps_asg (pe_op op_mod (pe_callTy call_int1 (by rfl) T.g_int (by decide +kernel) (pa_cons (pv 4) pa_nil)) pe_int) (pg_sub (pv 5) (pv 6) set_list))
  (pss_one (ps_set (i := 4) sc__law_draws.nd rfl (Or.inl rfl) (pe_op op_fdivW (pv 4) pe_int))))
  pss_nil))))))
  (pss_one (ps_ret (pe_revL (pv 5)))))))))), ?_⟩
    refine ⟨_, rfl, a, rfl, ⟨_, hs⟩, for_list (K := K) (a := a) (xs := ns.map V.int) (fun i σ H1 => ∃ (x : Int) (v2 : Option V), σ = [some (.ref a), some (.int x), v2, none, none, none, none] ∧ 0 ≤ x ∧ H1 = H) ⟨0, none, rfl, by decide, rfl⟩ (fun i σ H1 _ ⟨_, _, _, _, e⟩ => by rw [e]; exact hs) (fun i v σ H1 hi ⟨x, v2, e1, e2, e3⟩ => ?_) (fun σ H1 ⟨x, v2, e1, e2, e3⟩ => ?_)⟩
    · subst e1 e3
      obtain ⟨m, hm, rfl⟩ := intAt hi
      refine ⟨_, rfl, _, _, rfl, rfl, .inr ⟨by decide, by decide⟩, _, rfl, .inl ⟨_, rfl, _, _, rfl, rfl, (by show (0 : Int) < 2147483557; decide), _, _, rfl, rfl, _, _, rfl, rfl, _, _, rfl, rfl, (by show (0 : Int) < 2147483563; decide), _, _, rfl, Int.emod_nonneg _ (by decide), rfl⟩⟩
    · subst e1 e3
      refine ⟨_, rfl, _, _, rfl, rfl, .inr ⟨by decide, by decide⟩, _, _, rfl, rfl, (by show (0 : Int) < 2147483249; decide), ?_⟩
      refine ⟨_, rfl, _, rfl, a, _, rfl, hs, fun q1 hq1 => ?_⟩
      rw [cutI_eq]
      have s1 := same_upd (o := .lst ((cutI ns none (some 1)).map V.int)) hq1
      have hq2 : upd H1 q1 (.lst ((cutI ns none (some 1)).map V.int)) q1 = some (.lst ((cutI ns none (some 1)).map V.int)) := upd_same
      have lcs := Nat.le_trans (cutI_len ns none (some 1)) hl
      generalize cutI ns none (some 1) = cs at s1 hq2 lcs ⊢
      refine ⟨q1, rfl, ⟨_, SqL.of hq2⟩, fun D hD => ?_⟩
      refine lcL (K := K) (xs := cs.map V.int) (fun j => decide ((10 : Int) ^ 18 ≤ cs.getD j 0)) (fun j => .int (cs.getD j 0)) hD (SqL.of hq2) (by rw [List.length_map]; omega) (fun _ _ _ => rfl) (fun j z H4 hj s4 Q1 Q2 k1 k2 => ?_) (fun zs H4 s4 hz4 rz => ?_)
      · obtain ⟨y, hy, rfl⟩ := intAt hj
        have ey : cs.getD j 0 = y := by rw [List.getD_eq_getElem?_getD, hy]; rfl
        rw [ey] at k1 k2
        refine ⟨rfl, _, rfl, _, _, rfl, rfl, ⟨by decide, by decide, by decide⟩, _, _, rfl, rfl, _, rfl, ?_⟩
        show if decide ((10 : Int) ^ 18 ≤ y) = true then _ else _
        cases cc : decide ((10 : Int) ^ 18 ≤ y) with
        | false => exact iteF (k2 cc _ (Same.refl _))
        | true => exact iteT ⟨_, rfl, k1 cc _ _ (Same.refl _) (.int y)⟩
      · rw [List.length_map, filter_map_range (fun y : Int => decide ((10 : Int) ^ 18 ≤ y)) (fun y : Int => PyData.int y) 0 cs] at rz
        have ez := RpAll.ofInts (ns := cs.filter fun y => decide ((10 : Int) ^ 18 ≤ y)) rz
        subst ez
        have s14 := s1.trans s4
        refine ⟨_, _, rfl, SqL.of hz4, ?_⟩
        generalize (cs.filter fun y => decide ((10 : Int) ^ 18 ≤ y)).sum = big0
        refine ⟨(by show 0 ≤ sizeLine; decide), fun O hO => ?_⟩
        have h0O : H1 O = none := by
          cases e : H1 O with
          | none => rfl
          | some u => exact absurd ((s14 _ _ e).symm.trans hO) (by simp)
        have hs4 := s14.seq hs
        refine ⟨60, rfl, by decide, by decide, ?_⟩
        refine for_range (lo := 0) (n := 60) (fun i σ H5 => ∃ (x y big : Int) (v2 v6 : Option V) (ds : List Int), σ = [some (.ref a), some (.int x), v2, some (.int y), some (.int big), some (.ref O), v6] ∧ 0 ≤ x ∧ 0 ≤ y ∧ Same H4 H5 ∧ H5 O = some (.lst (ds.map V.int)) ∧ ds.length = i ∧ ∀ d ∈ ds, 0 ≤ d)
          ⟨x, _, big0, _, _, [], rfl, e2, Int.emod_nonneg _ (by decide), same_upd hO, upd_same, rfl, fun _ h => by cases h⟩ (fun i σ H5 hi ⟨x, y, big, v2, v6, ds, e1, x0, y0, s5, hO5, ld, dn⟩ => ?_) (fun σ H5 ⟨x, y, big, v2, v6, ds, e1, x0, y0, s5, hO5, ld, dn⟩ => ?_)
        · subst e1
          have hs5 := s5.seq hs4
          refine ⟨_, rfl, _, _, rfl, rfl, .inr ⟨by decide, by decide⟩, ?_⟩
          refine ⟨_, rfl, _, rfl, _, rfl, _, rfl, _, _, rfl, rfl, _, rfl, a, _, rfl, hs5, fun q2 hq2 => ?_⟩
          rw [cutI_eq]
          have s6 := same_upd (o := .lst ((cutI ns (some (0 + (i : Int))) (some (0 + (i : Int) + 1))).map V.int)) hq2
          have hq3 : upd H5 q2 (.lst ((cutI ns (some (0 + (i : Int))) (some (0 + (i : Int) + 1))).map V.int)) q2 = some (.lst ((cutI ns (some (0 + (i : Int))) (some (0 + (i : Int) + 1))).map V.int)) := upd_same
          have lc2 := Nat.le_trans (cutI_len ns (some (0 + (i : Int))) (some (0 + (i : Int) + 1))) hl
          generalize cutI ns (some (0 + (i : Int))) (some (0 + (i : Int) + 1)) = c2 at s6 hq3 lc2 ⊢
          generalize upd H5 q2 (.lst (c2.map V.int)) = H6 at s6 hq3 ⊢
          refine ⟨q2, rfl, ⟨_, SqL.of hq3⟩, fun D2 hD2 => ?_⟩
          refine lcL (K := K) (xs := c2.map V.int) (fun _ => true) (fun j => .int (c2.getD j 0 % 999983)) hD2 (SqL.of hq3) (by rw [List.length_map]; omega) (fun _ _ _ => rfl) (fun j z H7 hj s7 Q1 Q2 k1 k2 => ?_) (fun zs H7 s7 hz7 rz => ?_)
          · obtain ⟨m, hm, rfl⟩ := intAt hj
            have ey : c2.getD j 0 = m := by rw [List.getD_eq_getElem?_getD, hm]; rfl
            rw [ey] at k1
            exact ⟨rfl, _, rfl, .inl ⟨_, rfl, _, _, rfl, rfl, (by show (0 : Int) < 999983; decide), k1 rfl _ _ (Same.refl _) (.int _)⟩⟩
          · rw [filter_true, List.length_map, map_range (fun y : Int => PyData.int (y % 999983)) 0 c2] at rz
            have e8 : c2.map (fun y : Int => PyData.int (y % 999983)) = (c2.map fun y => y % 999983).map PyData.int := by rw [List.map_map]; rfl
            rw [e8] at rz
            have ez := RpAll.ofInts rz
            subst ez
            refine ⟨_, _, rfl, SqL.of hz7, _, _, rfl, rfl, _, _, rfl, rfl, (by show (0 : Int) < 2147483563; decide), ?_⟩
            generalize (c2.map fun y => y % 999983).sum = sm
            have nx : 0 ≤ ((x * 69069 + sm) % 2147483563) := Int.emod_nonneg _ (by decide)
            have ny : 0 ≤ ((y * 41358 + ((x * 69069 + sm) % 2147483563)) % 2147483249) := Int.emod_nonneg _ (by decide)
            refine ⟨_, rfl, _, _, rfl, rfl, .inr ⟨by decide, by decide⟩, _, rfl, _, _, rfl, rfl, _, _, rfl, rfl, (by show (0 : Int) < 2147483249; decide), ?_⟩
            have hO7 := s7 _ _ (s6 _ _ hO5)
            have s47 : Same H4 H7 := (s5.trans s6).trans s7
            have hO8 : upd H7 O (.lst (ds.map V.int ++ [V.int (((x * 69069 + sm) % 2147483563) * 2147483249 + ((y * 41358 + ((x * 69069 + sm) % 2147483563)) % 2147483249))])) O = some (.lst ((ds ++ [((x * 69069 + sm) % 2147483563) * 2147483249 + ((y * 41358 + ((x * 69069 + sm) % 2147483563)) % 2147483249)]).map V.int)) := by
              rw [upd_same, List.map_append]
              rfl
            have s8 : Same H4 (upd H7 O (.lst (ds.map V.int ++ [V.int (((x * 69069 + sm) % 2147483563) * 2147483249 + ((y * 41358 + ((x * 69069 + sm) % 2147483563)) % 2147483249))]))) := put_same hO s47
            have n8 : ∀ d ∈ ds ++ [((x * 69069 + sm) % 2147483563) * 2147483249 + ((y * 41358 + ((x * 69069 + sm) % 2147483563)) % 2147483249)], 0 ≤ d := fun d hd => by
              rcases List.mem_append.mp hd with hd | hd
              · exact dn d hd
              · rw [List.mem_singleton] at hd
                subst hd
                have := Int.mul_nonneg nx (show (0 : Int) ≤ 2147483249 by decide)
                omega
            have l8 : (ds ++ [((x * 69069 + sm) % 2147483563) * 2147483249 + ((y * 41358 + ((x * 69069 + sm) % 2147483563)) % 2147483249)]).length = i + 1 := by rw [List.length_append, ld]; rfl
            refine ⟨_, rfl, .inl ⟨rfl, _, SqL.of hO7⟩, _, rfl, _, _, rfl, rfl, .inr ⟨by decide, by decide⟩, _, rfl, _, _, rfl, rfl, O, _, _, rfl, rfl, hO7, (by rw [List.length_map]; exact Nat.lt_of_lt_of_le (by omega : ds.length < 60) (by decide)), ?_⟩
            refine ⟨_, rfl, _, _, rfl, rfl, _, rfl, ?_⟩
            show if decide ((0 : Int) < big) = true then _ else _
            cases decide ((0 : Int) < big) with
            | false => exact iteF ⟨_, _, _, _, _, _, rfl, nx, ny, s8, hO8, l8, n8⟩
            | true =>
              refine iteT ⟨_, rfl, .inl ⟨_, rfl, _, _, rfl, rfl, (by show (0 : Int) < 6983776800; decide), ?_⟩⟩
              refine ⟨_, rfl, _, rfl, O, _, _, i, rfl, rfl, hO8, ?_, _, rfl, _, _, rfl, rfl, ⟨by decide, by decide +kernel⟩, ((x * 69069 + sm) % 2147483563), ((y * 41358 + ((x * 69069 + sm) % 2147483563)) % 2147483249), _, _, _, (ds ++ [((x * 69069 + sm) % 2147483563) * 2147483249 + ((y * 41358 + ((x * 69069 + sm) % 2147483563)) % 2147483249)]).set i (big % 6983776800), rfl, nx, ny, ?_, ?_, ?_, ?_⟩
              · rw [List.length_map, l8]
                show ixN (i + 1) (0 + (i : Int)) = some i
                rw [Int.zero_add]
                exact ixN_nat (by omega)
              · exact put_same hO (by exact s8)
              · rw [upd_same, List.map_set]
              · rw [List.length_set, l8]
              · intro d hd
                rcases List.mem_or_eq_of_mem_set hd with hd | rfl
                · exact n8 d hd
                · exact Int.emod_nonneg _ (by decide)
        · subst e1
          refine ⟨_, rfl, O, _, rfl, SqL.of hO5, fun S hS => ?_⟩
          have sS := same_upd (o := .lst (ds.map V.int).reverse) hS
          refine k S _ ((s14.trans s5).trans sS) ?_ ⟨ds.reverse, by rw [upd_same, List.map_reverse], fun d hd => dn d (List.mem_reverse.mp hd)⟩
          cases e : H1 S with
          | none => rfl
          | some u => exact absurd ((s5 _ _ (s14 _ _ e)).symm.trans hS) (by simp)
theorem ok__law_times (T : Txt K mg ad fd) : FnOk P w K mg base CX0 1 (ad 41) (fd 41) ["_law_low", "_law_high"] spTimes := by
  refine T.F__law_times.ok sc__law_times (fun vs H Q E h => ?_) (fun cdv A outer s H vs Q E hr h => ?_)
  · obtain ⟨lo, n, rfl, _⟩ := h
    rfl
  · obtain ⟨lo, n, rfl, hl, k⟩ := h
    refine ⟨_, (pss_cons (ps_set (i := 2) sc__law_times.nd rfl (Or.inl rfl) pe_int)
  (pss_cons (ps_for PassesOwn.never rfl (pi_range2 rfl T.g_range (pa_cons (pv 0) (pa_cons (pv 1) pa_nil))) (pg_name (i := 3) (x := "_law_k") sc__law_times.nd rfl (Or.inl rfl))
  (pss_one (ps_set (i := 2) sc__law_times.nd rfl (Or.inl rfl) (pe_op op_mul (pv 2) (pe_op op_add (pv 3) pe_int)))))
  (pss_one (ps_ret (pv 2))))), ?_⟩
    refine ⟨_, rfl, _, rfl, (lo : Int), ((lo + n : Nat) : Int), rfl, ⟨by omega, by omega, by omega, by omega⟩, ?_⟩
    refine for_range (lo := (lo : Int)) (n := (((lo + n : Nat) : Int) - (lo : Int)).toNat) (fun i σ H1 => ∃ (r : Int) (v3 : Option V), σ = [some (.int (lo : Int)), some (.int ((lo + n : Nat) : Int)), some (.int r), v3] ∧ 1 ≤ r ∧ r ≤ (((lo + n) ^ i : Nat) : Int) ∧ H1 = H)
      ⟨1, _, rfl, by decide, by rw [Nat.pow_zero]; decide, rfl⟩ (fun i σ H1 hi ⟨r, v3, e1, r0, r1, e3⟩ => ?_) (fun σ H1 ⟨r, v3, e1, r0, r1, e3⟩ => ?_)
    · subst e1
      have hi2 : i < n := by omega
      refine ⟨_, rfl, _, rfl, _, _, rfl, rfl, _, _, rfl, rfl, .inr ⟨by omega, by omega⟩, _, _, rfl, ?_, ?_, e3⟩
      · show (1 : Int) ≤ r * ((lo : Int) + (i : Int) + 1)
        have := Int.mul_le_mul r0 (by omega : (1 : Int) ≤ (lo : Int) + (i : Int) + 1) (by decide) (by omega)
        omega
      · show r * ((lo : Int) + (i : Int) + 1) ≤ _
        have := Int.mul_le_mul r1 (by omega : (lo : Int) + (i : Int) + 1 ≤ ((lo + n : Nat) : Int)) (by omega) (Int.natCast_nonneg _)
        rw [Nat.pow_succ, Int.natCast_mul]
        exact this
    · subst e1 e3
      have e4 : (((lo + n : Nat) : Int) - (lo : Int)).toNat = n := by omega
      rw [e4] at r1
      exact ⟨_, rfl, k r r0 r1⟩
end
end LK
/-! a line of labels, and lists hung on neighbouring things of earlier ones -/
namespace LK
open PySem PySem.Spec PyProof.Rows L2
/-- x stands ahead of y in the line -/
def Bf (row : List Int) (x y : Int) : Prop := [x, y].Sublist row
theorem bf_mem {row : List Int} {x y : Int} (h : Bf row x y) : x ∈ row ∧ y ∈ row := ⟨h.subset (by simp), h.subset (by simp)⟩
theorem bf_ne {row : List Int} (nd : row.Nodup) {x y : Int} (h : Bf row x y) : x ≠ y := by
  have := nd.sublist h
  simp at this
  exact this
theorem bf_app {A B : List Int} {x y : Int} (hx : x ∈ A) (hy : y ∈ B) : Bf (A ++ B) x y := by
  have h1 : [x].Sublist A := List.singleton_sublist.mpr hx
  have h2 : [y].Sublist B := List.singleton_sublist.mpr hy
  exact h1.append h2
theorem bf_total {row : List Int} {x y : Int} (hx : x ∈ row) (hy : y ∈ row) (ne : x ≠ y) : Bf row x y ∨ Bf row y x := by
  obtain ⟨A, B, rfl⟩ := List.append_of_mem hx
  rcases List.mem_append.mp hy with h | h
  · exact .inr (bf_app h (by simp))
  · rcases List.mem_cons.mp h with h | h
    · exact absurd h.symm ne
    · have : A ++ x :: B = (A ++ [x]) ++ B := by simp
      rw [this]
      exact .inl (bf_app (by simp) h)
theorem bf_asymm {row : List Int} (nd : row.Nodup) {x y : Int} (h : Bf row x y) (g : Bf row y x) : False := by
  induction row with
  | nil => exact absurd h.length_le (by simp)
  | cons a row ih =>
    have nd2 := List.nodup_cons.mp nd
    cases h with
    | cons _ h =>
      cases g with
      | cons _ g => exact ih nd2.2 h g
      | cons_cons _ g => exact nd2.1 (h.subset (by simp))
    | cons_cons _ h =>
      cases g with
      | cons _ g => exact nd2.1 (g.subset (by simp))
      | cons_cons _ g => exact nd2.1 (List.singleton_sublist.mp h)
theorem bf_trans {row : List Int} (nd : row.Nodup) {x y z : Int} (h : Bf row x y) (g : Bf row y z) : Bf row x z := by
  rcases bf_total (bf_mem h).1 (bf_mem g).2 (fun e => bf_asymm nd h (e ▸ g)) with k | k
  · exact k
  · exfalso
    obtain ⟨A, B, rfl⟩ := List.append_of_mem (bf_mem h).2
    have key : ∀ u, Bf (A ++ y :: B) u y → u ∈ A := fun u hu => by
      rcases List.mem_append.mp (bf_mem hu).1 with q | q
      · exact q
      · rcases List.mem_cons.mp q with q | q
        · exact absurd q (bf_ne nd hu)
        · have e : A ++ y :: B = (A ++ [y]) ++ B := by simp
          have : Bf (A ++ y :: B) y u := by rw [e]; exact bf_app (by simp) q
          exact (bf_asymm nd hu this).elim
    have key2 : ∀ u, Bf (A ++ y :: B) y u → u ∈ B := fun u hu => by
      rcases List.mem_append.mp (bf_mem hu).2 with q | q
      · exact (bf_asymm nd hu (bf_app q (by simp))).elim
      · rcases List.mem_cons.mp q with q | q
        · exact absurd q.symm (bf_ne nd hu)
        · exact q
    have e : A ++ y :: B = (A ++ [y]) ++ B := by simp
    have : Bf (A ++ y :: B) x z := by rw [e]; exact bf_app (by simp [key x h]) (key2 z g)
    exact bf_asymm nd this k
theorem bf_down {row row' : List Int} (s : row.Sublist row') (nd : row'.Nodup) {x y : Int} (hx : x ∈ row) (hy : y ∈ row) (h : Bf row' x y) : Bf row x y := by
  rcases bf_total hx hy (bf_ne nd h) with k | k
  · exact k
  · exact (bf_asymm nd h (List.Sublist.trans k s)).elim
/-- two things lie in one list -/
def TiedF (F : List (List Int)) (x y : Int) : Prop := x ≠ y ∧ ∃ r ∈ F, x ∈ r ∧ y ∈ r
theorem TiedF.symm {F : List (List Int)} {x y : Int} (h : TiedF F x y) : TiedF F y x := by
  obtain ⟨ne, r, hr, hx, hy⟩ := h
  exact ⟨ne.symm, r, hr, hy, hx⟩
/-- what lies in the line between two things of a list and is tied to both lies in the list -/
def Filled (row : List Int) (F : List (List Int)) : Prop := ∀ r ∈ F, ∀ x ∈ r, ∀ y ∈ r, ∀ w, Bf row x w → Bf row w y → TiedF F x w → TiedF F w y → w ∈ r
/-- new things are put into the line, none of them between two of the seam -/
structure Hang (seam row row' : List Int) : Prop where
  nd : row'.Nodup
  sub : row.Sublist row'
  out : ∀ v ∈ row', v ∉ row → ∀ x ∈ seam, ∀ y ∈ seam, Bf row' x v → Bf row' v y → False
theorem Hang.refl {seam row : List Int} (nd : row.Nodup) : Hang seam row row := ⟨nd, List.Sublist.refl _, fun v h n => absurd h n⟩
theorem Hang.one {seam row row' : List Int} (h : Hang seam row row') (hs : ∀ z ∈ seam, z ∈ row) {v : Int} (hv : v ∉ row') {p : Nat} (hp : seam = [] ∨ (∀ z ∈ seam, z ∈ row'.drop p) ∨ (∀ z ∈ seam, z ∈ row'.take p)) : Hang seam row (row'.take p ++ [v] ++ row'.drop p) := by
  have hsub : row'.Sublist (row'.take p ++ [v] ++ row'.drop p) := by
    have h1 : row' = row'.take p ++ row'.drop p := (List.take_append_drop p row').symm
    have h2 : (row'.take p ++ row'.drop p).Sublist (row'.take p ++ [v] ++ row'.drop p) := (List.sublist_append_left _ _).append (List.Sublist.refl _)
    rw [← h1] at h2
    exact h2
  have hperm : (row'.take p ++ [v] ++ row'.drop p).Perm (v :: row') := by
    have h1 : (row'.take p ++ [v] ++ row'.drop p).Perm (([v] ++ row'.take p) ++ row'.drop p) := List.Perm.append_right _ List.perm_append_comm
    have h2 : ([v] ++ row'.take p) ++ row'.drop p = v :: row' := by
      rw [List.append_assoc, List.take_append_drop]
      rfl
    rw [h2] at h1
    exact h1
  have nd' : (row'.take p ++ [v] ++ row'.drop p).Nodup := hperm.nodup_iff.mpr (List.nodup_cons.mpr ⟨hv, h.nd⟩)
  refine ⟨nd', h.sub.trans hsub, fun u hu hn x hx y hy b1 b2 => ?_⟩
  by_cases e : u = v
  · subst e
    rcases hp with hp | hp | hp
    · rw [hp] at hx
      cases hx
    · exact bf_asymm nd' b1 (bf_app (by simp) (hp x hx))
    · refine bf_asymm nd' b2 ?_
      rw [List.append_assoc]
      exact bf_app (hp y hy) (by simp)
  · have hu' : u ∈ row' := by
      rcases List.mem_cons.mp (hperm.subset hu) with q | q
      · exact absurd q e
      · exact q
    exact h.out u hu' hn x hx y hy (bf_down hsub nd' (h.sub.subset (hs x hx)) hu' b1) (bf_down hsub nd' hu' (h.sub.subset (hs y hy)) b2)
/-- one more list hung on neighbouring things of a list keeps what lies between -/
theorem filled_hang {seam row row' m : List Int} {F : List (List Int)} {new : List Int} (hF : Filled row F) (hm : m ∈ F) (hin : ∀ r ∈ F, ∀ x ∈ r, x ∈ row) (hh : Hang seam row row')
    (hsm : ∀ z ∈ seam, z ∈ m) (hcon : ∀ x ∈ seam, ∀ y ∈ seam, ∀ w ∈ m, Bf row x w → Bf row w y → w ∈ seam) (hnew : ∀ v ∈ new, v ∈ row' ∧ v ∉ row) : Filled row' (F ++ [seam ++ new]) := by
  have hs : ∀ z ∈ seam, z ∈ row := fun z hz => hin m hm z (hsm z hz)
  -- ties of old things are old
  have told : ∀ x y, x ∈ row → y ∈ row → TiedF (F ++ [seam ++ new]) x y → TiedF F x y := fun x y hx hy ⟨ne, r, hr, h1, h2⟩ => by
    rcases List.mem_append.mp hr with hr | hr
    · exact ⟨ne, r, hr, h1, h2⟩
    · rw [List.mem_singleton] at hr
      subst hr
      have k : ∀ z, z ∈ row → z ∈ seam ++ new → z ∈ m := fun z hz hz2 => by
        rcases List.mem_append.mp hz2 with q | q
        · exact hsm z q
        · exact absurd hz (hnew z q).2
      exact ⟨ne, m, hm, k x hx h1, k y hy h2⟩
  -- a tie of a new thing lies in the new list
  have tnew : ∀ x y, y ∉ row → TiedF (F ++ [seam ++ new]) x y → x ∈ seam ++ new := fun x y hy ⟨ne, r, hr, h1, h2⟩ => by
    rcases List.mem_append.mp hr with hr | hr
    · exact absurd (hin r hr y h2) hy
    · rw [List.mem_singleton] at hr
      subst hr
      exact h1
  intro r hr x hx y hy w b1 b2 t1 t2
  have hw : w ∈ row' := (bf_mem b1).2
  rcases List.mem_append.mp hr with hr | hr
  · have hxr := hin r hr x hx
    have hyr := hin r hr y hy
    by_cases hwr : w ∈ row
    · exact hF r hr x hx y hy w (bf_down hh.sub hh.nd hxr hwr b1) (bf_down hh.sub hh.nd hwr hyr b2) (told x w hxr hwr t1) (told w y hwr hyr t2)
    · exfalso
      have k : ∀ z, z ∈ row → z ∈ seam ++ new → z ∈ seam := fun z hz hz2 => by
        rcases List.mem_append.mp hz2 with q | q
        · exact q
        · exact absurd hz (hnew z q).2
      exact hh.out w hw hwr x (k x hxr (tnew x w hwr t1)) y (k y hyr (tnew y w hwr t2.symm)) b1 b2
  · rw [List.mem_singleton] at hr
    subst hr
    by_cases hxr : x ∈ row
    · by_cases hyr : y ∈ row
      · have k : ∀ z, z ∈ row → z ∈ seam ++ new → z ∈ seam := fun z hz hz2 => by
          rcases List.mem_append.mp hz2 with q | q
          · exact q
          · exact absurd hz (hnew z q).2
        have hxs := k x hxr hx
        have hys := k y hyr hy
        by_cases hwr : w ∈ row
        · have c1 := bf_down hh.sub hh.nd hxr hwr b1
          have c2 := bf_down hh.sub hh.nd hwr hyr b2
          have := hF m hm x (hsm x hxs) y (hsm y hys) w c1 c2 (told x w hxr hwr t1) (told w y hwr hyr t2)
          exact List.mem_append_left _ (hcon x hxs y hys w this c1 c2)
        · exact (hh.out w hw hwr x hxs y hys b1 b2).elim
      · exact tnew w y hyr t2
    · exact tnew w x hxr t1.symm
/-- neighbouring things of a list, told in the line's order -/
theorem seam_con {row m : List Int} (nd : row.Nodup) (s k : Nat) {x y w : Int} (hx : x ∈ ((row.filter fun z => decide (z ∈ m)).drop s).take k) (hy : y ∈ ((row.filter fun z => decide (z ∈ m)).drop s).take k) (hw : w ∈ m) (b1 : Bf row x w) (b2 : Bf row w y) :
    w ∈ ((row.filter fun z => decide (z ∈ m)).drop s).take k := by
  have hwr := (bf_mem b1).2
  have hwo : w ∈ row.filter fun z => decide (z ∈ m) := List.mem_filter.mpr ⟨hwr, by simp [hw]⟩
  have hsub : (row.filter fun z => decide (z ∈ m)).Sublist row := List.filter_sublist
  generalize (row.filter fun z => decide (z ∈ m)) = o at *
  have e1 : o = o.take s ++ ((o.drop s).take k ++ (o.drop s).drop k) := by rw [List.take_append_drop, List.take_append_drop]
  rw [e1] at hwo
  rcases List.mem_append.mp hwo with h | h
  · exfalso
    have : Bf o w x := by rw [e1]; exact bf_app h (List.mem_append_left _ hx)
    exact bf_asymm nd b1 (List.Sublist.trans this hsub)
  · rcases List.mem_append.mp h with h | h
    · exact h
    · exfalso
      have : Bf o y w := by
        rw [e1, ← List.append_assoc]
        exact bf_app (List.mem_append_right _ hy) h
      exact bf_asymm nd b2 (List.Sublist.trans this hsub)
end LK
namespace LK
open PySem PySem.Spec PyProof.Rows L2
theorem idx_get {ns : List Int} {k : Int} (h : k ∈ ns) : ns[ns.idxOf k]? = some k := by
  have hl := List.idxOf_lt_length_iff.mpr h
  rw [List.getElem?_eq_getElem hl, List.getElem_idxOf]
theorem idx_le {z : Int} : ∀ {ns : List Int} {m : Nat}, ns[m]? = some z → ns.idxOf z ≤ m
  | [], m, h => by simp at h
  | a :: l, m, h => by
    rw [List.idxOf_cons]
    cases c : (a == z) with
    | true => exact Nat.zero_le _
    | false =>
      cases m with
      | zero =>
        have : a = z := by simpa using h
        simp [this] at c
      | succ m =>
        have := idx_le (ns := l) (m := m) (by simpa using h)
        show l.idxOf z + 1 ≤ m + 1
        omega
theorem idx_before {ns : List Int} {k : Int} {m : Nat} {z : Int} (hm : m < ns.idxOf k) (hz : ns[m]? = some z) : z ≠ k := by
  intro e
  subst e
  have := idx_le hz
  omega
theorem index_use {K : PySem.W.Frag} {H : Hp} {Q : VK} {a : Addr} {ns : List Int} {k : Int} (hs : SqL K H a (ns.map V.int)) (h : k ∈ ns) (q : Q (.int (ns.idxOf k : Nat)) H) : rIndex K (.ref a) [.int k] H Q := by
  refine ⟨a, _, _, ns.idxOf k, .int k, rfl, rfl, hs, rfl, flat_ints ns, ?_, ?_, fun m z' hm hz => ?_, q⟩
  · rw [List.getElem?_map, idx_get h]
    rfl
  · unfold eqV
    simp
  · obtain ⟨x, hx, rfl⟩ := intAt hz
    have := idx_before hm hx
    have e : eqV (.int x) (.int k) = decide (x = k) := by
      unfold eqV
      rfl
    rw [e]
    exact decide_eq_false this
theorem mem_take_idx {row : List Int} {x : Int} {p : Nat} (hx : x ∈ row) (h : row.idxOf x < p) : x ∈ row.take p := by
  refine List.mem_of_getElem? (i := row.idxOf x) ?_
  rw [List.getElem?_take, if_pos h, idx_get hx]
theorem mem_drop_idx {row : List Int} {x : Int} {p : Nat} (hx : x ∈ row) (h : p ≤ row.idxOf x) : x ∈ row.drop p := by
  refine List.mem_of_getElem? (i := row.idxOf x - p) ?_
  rw [List.getElem?_drop, Nat.add_sub_cancel' h, idx_get hx]
theorem idx_bf {row : List Int} {x y : Int} (hx : x ∈ row) (hy : y ∈ row) (h : row.idxOf x < row.idxOf y) : Bf row x y := by
  have := bf_app (mem_take_idx hx h) (mem_drop_idx hy (Nat.le_refl _))
  rwa [List.take_append_drop] at this
theorem idx_inj {row : List Int} {x y : Int} (hx : x ∈ row) (hy : y ∈ row) (h : row.idxOf x = row.idxOf y) : x = y := by
  have h1 := idx_get hx
  rw [h, idx_get hy] at h1
  exact (Option.some.inj h1).symm
theorem bf_idx {row : List Int} (nd : row.Nodup) {x y : Int} (h : Bf row x y) : row.idxOf x < row.idxOf y := by
  obtain ⟨hx, hy⟩ := bf_mem h
  rcases Nat.lt_trichotomy (row.idxOf x) (row.idxOf y) with k | k | k
  · exact k
  · exact absurd (idx_inj hx hy k) (bf_ne nd h)
  · exact (bf_asymm nd h (idx_bf hy hx k)).elim
/-- the places where a thing may be hung -/
def Place (row seam : List Int) (p : Nat) : Prop := seam = [] ∨ (∀ z ∈ seam, z ∈ row.drop p) ∨ (∀ z ∈ seam, z ∈ row.take p)
theorem place_ahead {row seam : List Int} (nd : row.Nodup) (sub : seam.Sublist row) {h : Int} (hh : seam[0]? = some h) {p : Nat} (hp : p ≤ row.idxOf h) : Place row seam p := by
  refine .inr (.inl fun z hz => mem_drop_idx (sub.subset hz) ?_)
  cases seam with
  | nil => cases hh
  | cons a l =>
    injection hh with hh
    subst hh
    rcases List.mem_cons.mp hz with rfl | hz
    · exact hp
    · have : Bf (a :: l) a z := by
        show [a, z].Sublist (a :: l)
        exact (List.singleton_sublist.mpr hz).cons_cons a
      have := bf_idx nd (List.Sublist.trans this sub)
      omega
theorem place_behind {row seam : List Int} (nd : row.Nodup) (sub : seam.Sublist row) {h : Int} (hh : seam[seam.length - 1]? = some h) {p : Nat} (hp : row.idxOf h < p) : Place row seam p := by
  refine .inr (.inr fun z hz => mem_take_idx (sub.subset hz) ?_)
  by_cases e : z = h
  · subst e
    exact hp
  · have hhm := List.mem_of_getElem? hh
    rcases bf_total hz hhm e with k | k
    · have := bf_idx nd (List.Sublist.trans k sub)
      omega
    · exfalso
      have nds := nd.sublist sub
      have h1 := bf_idx nds k
      have h2 := List.idxOf_lt_length_iff.mpr hz
      have h3 : seam.idxOf h = seam.length - 1 := by
        have h4 := idx_le hh
        have h5 := idx_get hhm
        have h6 : seam.idxOf h < seam.length := List.idxOf_lt_length_iff.mpr hhm
        have h7 : seam[seam.idxOf h]? = seam[seam.length - 1]? := by rw [h5, hh]
        exact (List.getElem?_inj h6 nds).mp h7
      omega
end LK
namespace LK
open PySem PySem.Spec PyProof.Rows L2
theorem areUnlike_below {n : Int} {d : PyData} (e : areUnlike n d = true) : areBelow n d = true := by
  unfold areUnlike at e
  rw [Bool.and_eq_true] at e
  exact e.1
theorem rows_app {rows : List (List Int)} {r : List Int} : (rows ++ [r]).map dTup = rows.map dTup ++ [dTup r] := by simp
theorem RpAll.take {K : PySem.W.Frag} {H : Hp} : ∀ {ds : List PyData} {vs : List V} (n : Nat), RpAll K H vs ds → RpAll K H (vs.take n) (ds.take n)
  | _, _, 0, _ => .nil
  | [], _, n + 1, h => by cases h; exact .nil
  | d :: ds, _, n + 1, h => by
    cases h with
    | cons a b => exact .cons a (RpAll.take n b)
theorem RpAll.drop {K : PySem.W.Frag} {H : Hp} : ∀ {ds : List PyData} {vs : List V} (n : Nat), RpAll K H vs ds → RpAll K H (vs.drop n) (ds.drop n)
  | _, _, 0, h => h
  | [], _, n + 1, h => by cases h; exact .nil
  | d :: ds, _, n + 1, h => by
    cases h with
    | cons a b => exact RpAll.drop n b
theorem cut_take {xs : List V} {z : Int} (h0 : 0 ≤ z) (h1 : z ≤ xs.length) : cutV xs none (some z) = xs.take z.toNat := by
  unfold cutV
  have e1 : HT.sIx xs.length 0 none = 0 := rfl
  have e2 : HT.sIx xs.length xs.length (some z) = z.toNat := by
    unfold HT.sIx
    simp
    split <;> omega
  rw [e1, e2]
  simp
theorem cut_drop {xs : List V} {z : Int} (h0 : 0 ≤ z) (h1 : z ≤ xs.length) : cutV xs (some z) none = xs.drop z.toNat := by
  unfold cutV
  have e1 : HT.sIx xs.length 0 (some z) = z.toNat := by
    unfold HT.sIx
    simp
    split <;> omega
  have e2 : HT.sIx xs.length xs.length none = xs.length := rfl
  rw [e1, e2]
  rw [List.take_of_length_le (by rw [List.length_drop]; omega)]
section
variable {P : Program} {w : World} {K : PySem.W.Frag} {mg : Str → Option Value} {base : Heap} {ad : Nat → Addr} {fd : Nat → FuncData}
end
end LK
namespace LK
open PySem PySem.Spec PyProof.Rows L2
def spHung (K : PySem.W.Frag) : Sp := fun vs H Q _ => ∃ (S R M : Addr) (row seam : List Int), vs = [.ref S, .ref R, .ref M] ∧ StOk H S S ∧ SqL K (hide S H) R (row.map V.int) ∧ SqL K (hide S H) M (seam.map V.int) ∧ row.length ≤ 100 ∧ row.Nodup ∧ seam.Sublist row ∧
  ∀ (p : Nat) q H', Place row seam p → H q = none → Mv S S H H' → SqL K (hide S H') q ((row.take p ++ [(row.length : Int)] ++ row.drop p).map V.int) → Q (.ref q) H'
theorem use_nx {α : Type} {M : α → L2.St → Hp → Prop} {D : Ends} {t : TS} {σ : L2.St} {H : Hp} (k : ∀ a σ' H', M a σ' H' → D.nx σ' H') (h : (∀ a σ' H', M a σ' H' → D.nx σ' H') → t D σ H) : t D σ H := h k
theorem at_lastI {l : List Int} {x : Int} (h : l[l.length - 1]? = some x) : atI (l.map V.int) (-1) = some (.int x) := by
  have hl : 0 < l.length := by
    cases l with
    | nil => cases h
    | cons => exact Nat.succ_pos _
  have e : ixN (l.map V.int).length (-1) = some (l.length - 1) := by
    unfold ixN
    rw [if_neg (by decide), List.length_map, if_pos (by omega)]
    congr 1
    omega
  unfold atI
  rw [e]
  show (l.map V.int)[l.length - 1]? = _
  rw [List.getElem?_map, h]
  rfl
section
variable {P : Program} {w : World} {K : PySem.W.Frag} {mg : Str → Option Value} {base : Heap} {ad : Nat → Addr} {fd : Nat → FuncData}
theorem ok__law_hung (T : Txt K mg ad fd) : FnOk P w K mg base CX0 2 (ad 42) (fd 42) ["_law_d", "_law_row", "_law_seam"] (spHung K) := by
  refine T.F__law_hung.ok sc__law_hung (fun vs H Q E h => ?_) (fun cdv A outer s H vs Q E hr h => ?_)
  · obtain ⟨S, R, M, row, seam, rfl, _⟩ := h
    rfl
  · obtain ⟨S, R, M, row, seam, rfl, st, hR, hM, hl, nd, sub, k⟩ := h
    refine ⟨_, (pss_cons (ps_set (i := 3) sc__law_hung.nd rfl (Or.inl rfl) pe_int)
  (pss_cons (ps_set (i := 4) sc__law_hung.nd rfl (Or.inl rfl) (pe_callB (lenS K) (by rfl) T.g_len (by decide +kernel) (pa_cons (pv 1) pa_nil)))
  (pss_cons (ps_if (PW.pt (pw_and (pt_cmpR op_gt (pe_callB (lenS K) (by rfl) T.g_len (by decide +kernel) (pa_cons (pv 2) pa_nil)) pe_int (nomark _)) (pw_and1 (pt_cmpR op_eq (pe_call (ok__law_take T) (hr.mono (by decide)) rfl T.m__law_take T.F__law_take.kp (b__law_take T) .nil pass0 (pa_cons (pv 0) (pa_cons pe_int pa_nil))) pe_int (nomark _))))) (pss_one (ps_set (i := 3) sc__law_hung.nd rfl (Or.inl rfl) (pe_op op_add (pe_bmK K PySem.F.plainAttrs_list PySem.F.slot_list_index PySem.F.type_list_index (mtIndex K) (pv 1) (pa_cons (pe_ix (ixL K) (pv 2) (pe_un un_neg pe_int) (fun _ _ => rfl)) pa_nil)) pe_int)))
  (pss_one (ps_if (pt_cmpR op_gt (pe_callB (lenS K) (by rfl) T.g_len (by decide +kernel) (pa_cons (pv 2) pa_nil)) pe_int (nomark _)) (pss_one (ps_set (i := 4) sc__law_hung.nd rfl (Or.inl rfl) (pe_bmK K PySem.F.plainAttrs_list PySem.F.slot_list_index PySem.F.type_list_index (mtIndex K) (pv 1) (pa_cons (pe_ix (ixL K) (pv 2) pe_int (fun _ _ => rfl)) pa_nil))))
  pss_nil)))
  (pss_cons (ps_set (i := 5) sc__law_hung.nd rfl (Or.inl rfl) (pe_op op_add (pv 3) (pe_call (ok__law_take T) (hr.mono (by decide)) rfl T.m__law_take T.F__law_take.kp (b__law_take T) .nil pass0 (pa_cons (pv 0) (pa_cons (pe_op op_add (pe_op op_sub (pv 4) (pv 3)) pe_int) pa_nil)))))
  (pss_one (ps_ret (pe_op (catL K) (pe_op (catL K) (pe_slice (slL K) (pv 1) po_none (po_some (pv 5))) (pe_lst (pa_cons (pe_callB (lenS K) (by rfl) T.g_len (by decide +kernel) (pa_cons (pv 1) pa_nil)) pa_nil))) (pe_slice (slL K) (pv 1) (po_some (pv 5)) po_none)))))))), ?_⟩
    have hR0 := (hide_same S H).seq hR
    have hM0 := (hide_same S H).seq hM
    refine ⟨_, rfl, R, _, rfl, .inl hR0, ?_⟩
    dsimp only [gName, tSeq, tAsg, tRet]
    refine use_nx (α := Nat × Nat) (M := fun a σ' H' => σ' = [some (.ref S), some (.ref R), some (.ref M), some (.int (a.1 : Nat)), some (.int (a.2 : Nat)), none] ∧ a.1 ≤ a.2 ∧ a.2 ≤ row.length ∧ (∀ p, a.1 ≤ p → p ≤ a.2 → Place row seam p) ∧ Mv S S H H') (fun a σ' H1 ⟨e, h1, h2, hp, m⟩ => ?_) (fun nx => ?_)
    · subst e
      have hR1 := (hide_same S H1).seq (m.same.seq hR)
      refine ⟨_, rfl, _, rfl, _, rfl, _, rfl, _, _, rfl, rfl, _, _, rfl, rfl, S, _, rfl, m.ok, by omega, fun r H2 r0 r1 m2 => ⟨_, _, rfl, rfl, ?_⟩⟩
      have m12 := m.trans m2
      have hR2 := (hide_same S H2).seq (m12.same.seq hR)
      obtain ⟨p, ep⟩ : ∃ p : Nat, (a.1 : Int) + r = p := ⟨a.1 + r.toNat, by omega⟩
      have hpl : p ≤ row.length := by omega
      refine ⟨_, rfl, _, rfl, _, rfl, R, _, rfl, hR2, fun q1 hq1 => ?_⟩
      have t1 := same_upd (o := .lst (cutV (row.map V.int) none (some ((a.1 : Int) + r)))) hq1
      have g1 : upd H2 q1 (.lst (cutV (row.map V.int) none (some ((a.1 : Int) + r)))) q1 = some (.lst ((row.take p).map V.int)) := by
        rw [upd_same, ep, cut_take (by omega) (by rw [List.length_map]; omega), List.map_take]
        rfl
      generalize upd H2 q1 (.lst (cutV (row.map V.int) none (some ((a.1 : Int) + r)))) = H3 at t1 g1 ⊢
      refine ⟨_, rfl, R, _, rfl, .inl (t1.seq hR2), (by show 1 ≤ sizeLine; decide), fun q2 hq2 => ?_⟩
      rw [List.length_map]
      have t2 := same_upd (o := .lst [V.int ((row.length : Nat) : Int)]) hq2
      have g2 : upd H3 q2 (.lst [V.int ((row.length : Nat) : Int)]) q2 = some (.lst [V.int ((row.length : Nat) : Int)]) := upd_same
      generalize upd H3 q2 (.lst [V.int ((row.length : Nat) : Int)]) = H4 at t2 g2 ⊢
      refine ⟨q1, q2, _, _, rfl, rfl, SqL.of (t2 _ _ g1), SqL.of g2, (by rw [List.length_map, List.length_take]; show _ + 1 ≤ 2000; omega), fun q3 hq3 => ?_⟩
      have t3 := same_upd (o := .lst ((row.take p).map V.int ++ [V.int ((row.length : Nat) : Int)])) hq3
      have g3 : upd H4 q3 (.lst ((row.take p).map V.int ++ [V.int ((row.length : Nat) : Int)])) q3 = some (.lst ((row.take p).map V.int ++ [V.int ((row.length : Nat) : Int)])) := upd_same
      generalize upd H4 q3 (.lst ((row.take p).map V.int ++ [V.int ((row.length : Nat) : Int)])) = H5 at t3 g3 ⊢
      have t25 := (t1.trans t2).trans t3
      refine ⟨_, rfl, _, rfl, _, rfl, R, _, rfl, t25.seq hR2, fun q4 hq4 => ?_⟩
      have t4 := same_upd (o := .lst (cutV (row.map V.int) (some ((a.1 : Int) + r)) none)) hq4
      have g4 : upd H5 q4 (.lst (cutV (row.map V.int) (some ((a.1 : Int) + r)) none)) q4 = some (.lst ((row.drop p).map V.int)) := by
        rw [upd_same, ep, cut_drop (by omega) (by rw [List.length_map]; omega), List.map_drop]
        rfl
      generalize upd H5 q4 (.lst (cutV (row.map V.int) (some ((a.1 : Int) + r)) none)) = H6 at t4 g4 ⊢
      refine ⟨q3, q4, _, _, rfl, rfl, SqL.of (t4 _ _ g3), SqL.of g4, (by rw [List.length_append, List.length_map, List.length_map, List.length_take, List.length_drop]; show _ + 1 + _ ≤ 2000; omega), fun q5 hq5 => ?_⟩
      have t5 := same_upd (o := .lst ((row.take p).map V.int ++ [V.int ((row.length : Nat) : Int)] ++ (row.drop p).map V.int)) hq5
      have mE := m12.then ((t25.trans t4).trans t5)
      have q5S : q5 ≠ S := free_ne (m12.then (t25.trans t4)).ok hq5
      refine k p q5 _ (hp p (by omega) (by omega)) ((m12.then (t25.trans t4)).free hq5) mE (SqL.of ?_)
      rw [hide_ne q5S, upd_same, List.map_append, List.map_append]
      rfl
    · refine ⟨_, rfl, M, _, rfl, .inl hM0, _, _, rfl, rfl, _, rfl, ?_⟩
      rw [List.length_map, List.length_map]
      cases hs : seam with
      | nil =>
        refine iteF (iteF ⟨_, rfl, M, _, rfl, .inl hM0, _, _, rfl, rfl, _, rfl, ?_⟩)
        rw [List.length_map, hs]
        exact iteF (nx (0, row.length) _ _ ⟨rfl, Nat.zero_le _, Nat.le_refl _, fun _ _ _ => .inl hs, Mv.refl st⟩)
      | cons z zs =>
        have e0 : decide ((0 : Int) < (((z :: zs).length : Nat) : Int)) = true := decide_eq_true (by rw [List.length_cons]; omega)
        rw [e0]
        refine iteT ⟨_, rfl, S, 2, rfl, st, by decide, fun r H1 r0 r1 m1 => ?_⟩
        have hR1 := (hide_same S H1).seq (m1.same.seq hR)
        have hM1 := (hide_same S H1).seq (m1.same.seq hM)
        have lpos : 0 < seam.length := by rw [hs]; exact Nat.succ_pos _
        refine ⟨rfl, _, rfl, ?_⟩
        show if decide (V.int r = V.int 0) = true then _ else _
        by_cases c : r = 0
        · rw [decide_eq_true (congrArg V.int c)]
          refine iteT ?_
          obtain ⟨l, hl2⟩ : ∃ l, seam[seam.length - 1]? = some l := ⟨_, List.getElem?_eq_getElem (by omega)⟩
          have hlm := sub.subset (List.mem_of_getElem? hl2)
          refine ⟨_, rfl, .inl ⟨rfl, _, hR1⟩, _, rfl, 1, rfl, M, _, _, _, rfl, rfl, hM1, at_lastI hl2, ?_⟩
          dsimp only [tNil]
          refine index_use hR1 hlm ⟨_, _, rfl, rfl, ?_⟩
          have hlt := List.idxOf_lt_length_iff.mpr hlm
          exact nx (row.idxOf l + 1, row.length) _ _ ⟨rfl, hlt, Nat.le_refl _, fun p h1 h2 => place_behind nd sub hl2 h1, m1⟩
        · rw [decide_eq_false (fun e => c (by injection e))]
          refine iteF ⟨_, rfl, M, _, rfl, .inl hM1, _, _, rfl, rfl, _, rfl, ?_⟩
          rw [List.length_map, hs, e0]
          refine iteT ?_
          obtain ⟨l, hl2⟩ : ∃ l, seam[0]? = some l := ⟨_, List.getElem?_eq_getElem lpos⟩
          have hlm := sub.subset (List.mem_of_getElem? hl2)
          refine ⟨_, rfl, .inl ⟨rfl, _, hR1⟩, _, rfl, M, _, 0, _, rfl, rfl, hM1, at_of (j := 0) (by rfl) (by rw [List.getElem?_map, hl2]; rfl), ?_⟩
          dsimp only [tNil]
          refine index_use hR1 hlm ?_
          have hlt := List.idxOf_lt_length_iff.mpr hlm
          exact nx (0, row.idxOf l) _ _ ⟨rfl, Nat.zero_le _, Nat.le_of_lt hlt, fun p h1 h2 => place_ahead nd sub hl2 h2, m1⟩
end
end LK
/-! the families of lists that are named -/
namespace LK
open PySem PySem.Spec PyProof.Rows L2
structure Fam (F : List (List Int)) (row : List Int) : Prop where
  nd : row.Nodup
  mem : ∀ x, x ∈ row ↔ 0 ≤ x ∧ x < row.length
  inn : ∀ r ∈ F, ∀ x ∈ r, x ∈ row
  rnd : ∀ r ∈ F, r.Nodup
  two : ∀ r ∈ F, 2 ≤ r.length ∧ r.length ≤ 6
  fill : Filled row F
  ne : F ≠ []
/-- where the first new label stands -/
def newL (n j : Nat) : List Int := (List.range j).map fun i => ((n + i : Nat) : Int)
theorem newL_succ (n j : Nat) : newL n (j + 1) = newL n j ++ [((n + j : Nat) : Int)] := by
  unfold newL
  rw [List.range_succ, List.map_append]
  rfl
theorem newL_mem {n j : Nat} {x : Int} : x ∈ newL n j ↔ (n : Int) ≤ x ∧ x < ((n + j : Nat) : Int) := by
  unfold newL
  rw [List.mem_map]
  constructor
  · rintro ⟨i, hi, rfl⟩
    have := List.mem_range.mp hi
    omega
  · rintro ⟨h1, h2⟩
    exact ⟨(x - n).toNat, List.mem_range.mpr (by omega), by omega⟩
theorem newL_nd (n j : Nat) : (newL n j).Nodup := by
  unfold newL
  rw [List.Nodup, List.pairwise_map]
  exact List.nodup_range.imp fun {a b} h e => h (by omega)
theorem fam_start {n : Nat} (h1 : 2 ≤ n) (h2 : n ≤ 6) : Fam [newL 0 n] (newL 0 n) := by
  have hm : ∀ x, x ∈ newL 0 n ↔ 0 ≤ x ∧ x < ((newL 0 n).length : Int) := fun x => by
    rw [newL_mem]
    have : (newL 0 n).length = n := by unfold newL; rw [List.length_map, List.length_range]
    omega
  have hl : (newL 0 n).length = n := by unfold newL; rw [List.length_map, List.length_range]
  refine ⟨newL_nd 0 n, hm, fun r hr x hx => ?_, fun r hr => ?_, fun r hr => ?_, fun r hr x hx y hy w b1 b2 _ _ => ?_, by simp⟩
  · rw [List.mem_singleton] at hr; exact hr ▸ hx
  · rw [List.mem_singleton] at hr; exact hr ▸ newL_nd 0 n
  · rw [List.mem_singleton] at hr; rw [hr, hl]; exact ⟨h1, h2⟩
  · rw [List.mem_singleton] at hr; rw [hr]; exact (bf_mem b1).2
/-- the line while j new things have been hung -/
structure Hung (seam row : List Int) (j : Nat) (row' : List Int) : Prop where
  hang : Hang seam row row'
  len : row'.length = row.length + j
  mem : ∀ x, x ∈ row' ↔ 0 ≤ x ∧ x < row'.length
theorem Hung.zero {F : List (List Int)} {row seam : List Int} (h : Fam F row) : Hung seam row 0 row := ⟨.refl h.nd, rfl, h.mem⟩
theorem Hung.next {seam row row' : List Int} {j : Nat} (h : Hung seam row j row') (hs : ∀ z ∈ seam, z ∈ row) {p : Nat} (hp : Place row' seam p) : Hung seam row (j + 1) (row'.take p ++ [(row'.length : Int)] ++ row'.drop p) := by
  have hl : (row'.take p ++ [(row'.length : Int)] ++ row'.drop p).length = row'.length + 1 := by
    rw [List.length_append, List.length_append, List.length_take, List.length_drop]
    show min p row'.length + 1 + (row'.length - p) = _
    omega
  refine ⟨h.hang.one hs (fun z => ?_) hp, ?_, fun x => ?_⟩
  · have := (h.mem _).mp z
    omega
  · rw [hl, h.len]
    omega
  · rw [hl]
    have e : x ∈ row'.take p ++ [(row'.length : Int)] ++ row'.drop p ↔ x ∈ row' ∨ x = row'.length := by
      have e0 : row' = row'.take p ++ row'.drop p := (List.take_append_drop p row').symm
      constructor
      · intro z
        rcases List.mem_append.mp z with z | z
        · rcases List.mem_append.mp z with z | z
          · exact .inl (List.mem_of_mem_take z)
          · exact .inr (by simpa using z)
        · exact .inl (List.mem_of_mem_drop z)
      · rintro (z | z)
        · rw [e0] at z
          rcases List.mem_append.mp z with z | z
          · exact List.mem_append_left _ (List.mem_append_left _ z)
          · exact List.mem_append_right _ z
        · exact List.mem_append_left _ (List.mem_append_right _ (by simp [z]))
    rw [e, h.mem]
    omega
theorem Hung.sub {seam row row' : List Int} {j : Nat} (h : Hung seam row j row') (s : seam.Sublist row) : seam.Sublist row' := s.trans h.hang.sub
theorem fam_step {F : List (List Int)} {row row' m : List Int} {j s k : Nat} (h : Fam F row) (hm : m ∈ F) (hh : Hung (((row.filter fun z => decide (z ∈ m)).drop s).take k) row j row') (h2 : 2 ≤ (((row.filter fun z => decide (z ∈ m)).drop s).take k).length + j)
    (h6 : (((row.filter fun z => decide (z ∈ m)).drop s).take k).length + j ≤ 6) : Fam (F ++ [((row.filter fun z => decide (z ∈ m)).drop s).take k ++ newL row.length j]) row' := by
  have hsub : (((row.filter fun z => decide (z ∈ m)).drop s).take k).Sublist row := ((List.take_sublist _ _).trans (List.drop_sublist _ _)).trans List.filter_sublist
  have hsm : ∀ z ∈ ((row.filter fun z => decide (z ∈ m)).drop s).take k, z ∈ m := fun z hz => by
    have := List.mem_of_mem_drop (List.mem_of_mem_take hz)
    have := (List.mem_filter.mp this).2
    simpa using this
  have hnew : ∀ v ∈ newL row.length j, v ∈ row' ∧ v ∉ row := fun v hv => by
    have h1 := newL_mem.mp hv
    have h3 := hh.len
    refine ⟨(hh.mem v).mpr (by omega), fun z => ?_⟩
    have := (h.mem v).mp z
    omega
  have hlen : (newL row.length j).length = j := by unfold newL; rw [List.length_map, List.length_range]
  have hcon := fun x hx y hy w hw b1 b2 => seam_con (m := m) h.nd s k (x := x) (y := y) (w := w) hx hy hw b1 b2
  generalize ((row.filter fun z => decide (z ∈ m)).drop s).take k = seam at *
  refine ⟨hh.hang.nd, hh.mem, fun r hr x hx => ?_, fun r hr => ?_, fun r hr => ?_, filled_hang h.fill hm h.inn hh.hang hsm hcon hnew, by simp⟩
  · rcases List.mem_append.mp hr with hr | hr
    · exact hh.hang.sub.subset (h.inn r hr x hx)
    · rw [List.mem_singleton] at hr
      subst hr
      rcases List.mem_append.mp hx with hx | hx
      · exact hh.hang.sub.subset (hsub.subset hx)
      · exact (hnew x hx).1
  · rcases List.mem_append.mp hr with hr | hr
    · exact h.rnd r hr
    · rw [List.mem_singleton] at hr
      subst hr
      exact List.nodup_append.mpr ⟨h.nd.sublist hsub, newL_nd _ _, fun a ha b hb e => (hnew b hb).2 (e ▸ hsub.subset ha)⟩
  · rcases List.mem_append.mp hr with hr | hr
    · exact h.two r hr
    · rw [List.mem_singleton] at hr
      subst hr
      rw [List.length_append, hlen]
      exact ⟨h2, h6⟩
end LK
namespace LK
open PySem PySem.Spec PyProof.Rows L2
/-- the names told so far (a list at N) and the line (a list at R) -/
structure NamAt (K : PySem.W.Frag) (S N : Addr) (H : Hp) (F : List (List Int)) (R : Addr) (row : List Int) (xs : List V) : Prop where
  st : StOk H S S
  n : H N = some (.lst xs)
  rx : RpAll K (hide N (hide S H)) xs (F.map dLst)
  hr : SqL K (hide N (hide S H)) R (row.map V.int)
theorem NamAt.nS {K : PySem.W.Frag} {S N : Addr} {H : Hp} {F : List (List Int)} {R : Addr} {row : List Int} {xs : List V} (h : NamAt K S N H F R row xs) (m : ∀ x ∈ xs, ∃ a, x = .ref a) (n : xs ≠ []) : N ≠ S := by
  rintro rfl
  obtain ⟨ds, e, _⟩ := h.st.ex
  rw [h.n] at e
  injection e with e
  injection e with e
  cases xs with
  | nil => exact n rfl
  | cons x xs =>
    obtain ⟨a, rfl⟩ := m x (by simp)
    cases ds with
    | nil => cases e
    | cons d ds => injection e with e _; cases e
theorem NamAt.mv {K : PySem.W.Frag} {S N : Addr} {H H' : Hp} {F : List (List Int)} {R : Addr} {row : List Int} {xs : List V} (h : NamAt K S N H F R row xs) (ne : N ≠ S) (m : Mv S S H H') : NamAt K S N H' F R row xs :=
  ⟨m.ok, m.get ne h.n, h.rx.same (hide_mono m.same), (hide_mono m.same).seq h.hr⟩
theorem NamAt.show {K : PySem.W.Frag} {S N : Addr} {H : Hp} {F : List (List Int)} {R : Addr} {row : List Int} {xs : List V} (h : NamAt K S N H F R row xs) : RpAll K H xs (F.map dLst) ∧ SqL K H R (row.map V.int) :=
  ⟨(h.rx.same (hide_same N _)).same (hide_same S H), (hide_same S H).seq ((hide_same N _).seq h.hr)⟩
theorem cut_mid {l : List Int} {a b : Int} (h0 : 0 ≤ a) (h1 : 0 ≤ b) (h2 : a + b ≤ l.length) : cutV (l.map V.int) (some a) (some (a + b)) = ((l.drop a.toNat).take b.toNat).map V.int := by
  unfold cutV
  have e1 : HT.sIx (l.map V.int).length 0 (some a) = a.toNat := by
    unfold HT.sIx
    simp
    split <;> omega
  have e2 : HT.sIx (l.map V.int).length (l.map V.int).length (some (a + b)) = (a + b).toNat := by
    unfold HT.sIx
    simp
    split <;> omega
  rw [e1, e2, List.map_take, List.map_drop]
  congr 1
  omega
theorem rd_hide {H : Hp} {N a : Addr} {o : HO} (ne : a ≠ N) (h : Rd H a o) : Rd (hide N H) a o := by
  rcases h with h | ⟨f, h⟩
  · exact .inl (by rw [hide_ne ne]; exact h)
  · exact .inr ⟨f, by rw [hide_ne ne]; exact h⟩
theorem sql_hide {K : PySem.W.Frag} {H : Hp} {N a : Addr} {xs : List V} (ne : a ≠ N) (h : SqL K H a xs) : SqL K (hide N H) a xs := by
  rcases h with h | h
  · exact .inl (rd_hide ne h)
  · exact .inr h
theorem sql_free {K : PySem.W.Frag} {X H : Hp} {M a : Addr} {xs : List V} (s : Same X H) (n : H M = none) (h : SqL K X a xs) : SqL K (hide M X) a xs := by
  rcases h with h | h
  · refine .inl (rd_hide ?_ h)
    rintro rfl
    rcases h with h | ⟨f, h⟩
    · have := s _ _ h
      rw [n] at this
      cases this
    · have := s _ _ h
      rw [n] at this
      cases this
  · exact .inr h
def bnd : Nat → Int
  | 0 => 1000000000
  | 1 => 25000000000
  | _ => 625000000000
theorem bnd_le (i : Nat) : bnd i ≤ 625000000000 := by
  match i with
  | 0 => decide
  | 1 => decide
  | _ + 2 => exact Int.le_refl _
theorem bnd_mono {i : Nat} (h : i < 2) : bnd i ≤ bnd (i + 1) := by
  match i, h with
  | 0, _ => decide
  | 1, _ => decide
theorem bnd_step {i : Nat} {c t : Int} (h : i < 2) (h1 : c ≤ bnd i) (c1 : 1 ≤ c) (t1 : 1 ≤ t) (t2 : t ≤ 25) : c * t ≤ bnd (i + 1) := by
  have h2 : c * t ≤ c * 25 := Int.mul_le_mul_of_nonneg_left t2 (by omega)
  match i, h with
  | 0, _ =>
    have h3 : c ≤ 1000000000 := h1
    show c * t ≤ 25000000000
    omega
  | 1, _ =>
    have h3 : c ≤ 25000000000 := h1
    show c * t ≤ 625000000000
    omega
theorem pow_le25 {a f : Nat} (ha : a ≤ 5) (h1 : 1 ≤ f) (h2 : f ≤ 2) : a ^ f ≤ 25 := by
  rcases (by omega : f = 1 ∨ f = 2) with rfl | rfl
  · rw [Nat.pow_one]; omega
  · have := Nat.mul_le_mul ha ha
    rw [Nat.pow_two]
    omega
def spNamed (K : PySem.W.Frag) : Sp := fun vs H Q _ => ∃ (S R : Addr) (n : Nat), vs = [.ref S, .int 1000000000, .ref R] ∧ StOk H S S ∧ SqL K (hide S H) R ((newL 0 n).map V.int) ∧ 2 ≤ n ∧ n ≤ 6 ∧
  ∀ t N R' F row xs H', Mv S S H H' → SqT K (hide S H') t [.ref N, .ref R'] → NamAt K S N H' F R' row xs → N ≠ S → Fam F row → F.length ≤ 3 → row.length ≤ 9 → Q (.ref t) H'
section
variable {P : Program} {w : World} {K : PySem.W.Frag} {mg : Str → Option Value} {base : Heap} {ad : Nat → Addr} {fd : Nat → FuncData}
theorem ok__law_named (T : Txt K mg ad fd) : FnOk P w K mg base CX0 3 (ad 43) (fd 43) ["_law_d", "_law_most", "_law_row"] (spNamed K) := by
  refine T.F__law_named.ok sc__law_named (fun vs H Q E h => ?_) (fun cdv A outer s H vs Q E hr h => ?_)
  · obtain ⟨S, R, n, rfl, _⟩ := h
    rfl
  · obtain ⟨S, R, n, rfl, st, hR, n2, n6, k⟩ := h
    refine ⟨_, (pss_cons (ps_set (i := 3) sc__law_named.nd rfl (Or.inl rfl) (pe_lst (pa_cons (pv 2) pa_nil)))
  (pss_cons (ps_set (i := 4) sc__law_named.nd rfl (Or.inl rfl) (pe_call (ok__law_times T) (hr.mono (by decide)) rfl T.m__law_times T.F__law_times.kp (b__law_times T) .nil pass0 (pa_cons pe_int (pa_cons (pe_callB (lenS K) (by rfl) T.g_len (by decide +kernel) (pa_cons (pv 2) pa_nil)) pa_nil))))
  (pss_cons (ps_for PassesOwn.never rfl (pi_range1 rfl T.g_range (pa_cons (pe_call (ok__law_take T) (hr.mono (by decide)) rfl T.m__law_take T.F__law_take.kp (b__law_take T) .nil pass0 (pa_cons (pv 0) (pa_cons pe_int pa_nil))) pa_nil)) (pg_name (i := 5) (x := "_law_k") sc__law_named.nd rfl (Or.inl rfl))
  (pss_cons (ps_set (i := 6) sc__law_named.nd rfl (Or.inr rfl) (pe_ix (ixL K) (pv 3) (pe_call (ok__law_take T) (hr.mono (by decide)) rfl T.m__law_take T.F__law_take.kp (b__law_take T) .nil pass0 (pa_cons (pv 0) (pa_cons (pe_callB (lenS K) (by rfl) T.g_len (by decide +kernel) (pa_cons (pv 3) pa_nil)) pa_nil))) (fun _ _ => rfl)))
  (pss_cons (ps_setLc (i := 7) (own := [("_law_x", 14)]) (g := gName 14) rfl sc__law_named.nd rfl rfl (sw_true rfl rfl rfl (by decide +kernel)) (piL K (pv 2)) (blkOk_by (N := ["_law_d", "_law_most", "_law_row", "_law_names", "_law_count", "_law_k", "_law_mother", "_law_order", "_law_many", "_law_start", "_law_seam", "_law_fresh", "_law_made", "_law_j", "_law_x"]) (sc := defScope s__law_named) (by decide +kernel)) (fun _ _ _ _ _ => (pg_name (i := 14) (x := "_law_x") sc__law_named.nd rfl (Or.inl rfl))) (fun _ _ _ _ _ => (pts_one (pt_cmpR (inS K) (pv 14) (pv 6) (by with_unfolding_all rfl)))) (fun _ _ _ _ _ => (pv 14)))
  (pss_cons (ps_set (i := 8) sc__law_named.nd rfl (Or.inl rfl) (pe_call (ok__law_take T) (hr.mono (by decide)) rfl T.m__law_take T.F__law_take.kp (b__law_take T) .nil pass0 (pa_cons (pv 0) (pa_cons (pe_op op_add (pe_callB (call_min2 rfl) (by rfl) T.g_min (by decide +kernel) (pa_cons pe_int (pa_cons (pe_callB (lenS K) (by rfl) T.g_len (by decide +kernel) (pa_cons (pv 7) pa_nil)) pa_nil))) pe_int) pa_nil))))
  (pss_cons (ps_set (i := 9) sc__law_named.nd rfl (Or.inl rfl) (pe_call (ok__law_take T) (hr.mono (by decide)) rfl T.m__law_take T.F__law_take.kp (b__law_take T) .nil pass0 (pa_cons (pv 0) (pa_cons (pe_op op_add (pe_op op_sub (pe_callB (lenS K) (by rfl) T.g_len (by decide +kernel) (pa_cons (pv 7) pa_nil)) (pv 8)) pe_int) pa_nil))))
  (pss_cons (ps_set (i := 10) sc__law_named.nd rfl (Or.inl rfl) (pe_slice (slL K) (pv 7) (po_some (pv 9)) (po_some (pe_op op_add (pv 9) (pv 8)))))
  (pss_cons (ps_set (i := 11) sc__law_named.nd rfl (Or.inl rfl) (pe_callB (call_max2 rfl) (by rfl) T.g_max (by decide +kernel) (pa_cons (pe_op op_sub pe_int (pv 8)) (pa_cons (pe_callB (call_min2 rfl) (by rfl) T.g_min (by decide +kernel) (pa_cons (pe_op op_add pe_int (pe_call (ok__law_take T) (hr.mono (by decide)) rfl T.m__law_take T.F__law_take.kp (b__law_take T) .nil pass0 (pa_cons (pv 0) (pa_cons pe_int pa_nil)))) (pa_cons (pe_op op_sub pe_int (pv 8)) pa_nil))) pa_nil))))
  (pss_one (ps_if (PW.pt (pw_and (pt_cmpR op_le (pe_op op_mul (pv 4) (pe_call (ok__law_times T) (hr.mono (by decide)) rfl T.m__law_times T.F__law_times.kp (b__law_times T) .nil pass0 (pa_cons (pv 8) (pa_cons (pe_op op_add (pv 8) (pv 11)) pa_nil)))) (pv 1) (nomark _)) (pw_and1 (pt_cmpR op_le (pe_op op_add (pe_callB (lenS K) (by rfl) T.g_len (by decide +kernel) (pa_cons (pv 2) pa_nil)) (pv 11)) pe_int (nomark _))))) (pss_cons (ps_set (i := 4) sc__law_named.nd rfl (Or.inl rfl) (pe_op op_mul (pv 4) (pe_call (ok__law_times T) (hr.mono (by decide)) rfl T.m__law_times T.F__law_times.kp (b__law_times T) .nil pass0 (pa_cons (pv 8) (pa_cons (pe_op op_add (pv 8) (pv 11)) pa_nil)))))
  (pss_cons (ps_set (i := 12) sc__law_named.nd rfl (Or.inl rfl) (pe_callTy (lstOf K) (by rfl) T.g_list (by decide +kernel) (pa_cons (pv 10) pa_nil)))
  (pss_cons (ps_for PassesOwn.never rfl (pi_range1 rfl T.g_range (pa_cons (pv 11) pa_nil)) (pg_name (i := 13) (x := "_law_j") sc__law_named.nd rfl (Or.inl rfl))
  (pss_cons (ps_expr (pe_bmK K PySem.F.plainAttrs_list PySem.F.slot_list_append PySem.F.type_list_append mt_append (pv 12) (pa_cons (pe_callB (lenS K) (by rfl) T.g_len (by decide +kernel) (pa_cons (pv 2) pa_nil)) pa_nil)))
  (pss_one (ps_set (i := 2) sc__law_named.nd rfl (Or.inl rfl) (pe_call (ok__law_hung T) (hr.mono (by decide)) rfl T.m__law_hung T.F__law_hung.kp (b__law_hung T) .nil pass0 (pa_cons (pv 0) (pa_cons (pv 2) (pa_cons (pv 10) pa_nil))))))))
  (pss_one (ps_expr (pe_bmK K PySem.F.plainAttrs_list PySem.F.slot_list_append PySem.F.type_list_append mt_append (pv 3) (pa_cons (pv 12) pa_nil)))))))
  pss_nil)))))))))
  (pss_one (ps_ret (pe_tup (pa_cons (pv 3) (pa_cons (pv 2) pa_nil)))))))), ?_⟩
    have hR0 := (hide_same S H).seq hR
    have hl : (newL 0 n).length = n := by unfold newL; rw [List.length_map, List.length_range]
    refine ⟨_, rfl, (by show 1 ≤ sizeLine; decide), fun N hN => ?_⟩
    have s1 := same_upd (o := .lst [V.ref R]) hN
    have NS := free_ne st hN
    have m1 : Mv S S H (upd H N (.lst [V.ref R])) := Mv.of st s1
    have nm1 : NamAt K S N (upd H N (.lst [V.ref R])) [newL 0 n] R (newL 0 n) [.ref R] := by
      have hR1 : SqL K (hide N (hide S (upd H N (.lst [V.ref R])))) R ((newL 0 n).map V.int) := by
        rw [hide_upd NS, hide_upd_self]
        have e : hide N (hide S H) = hide S H := by
          funext b
          by_cases q : b = N
          · subst q
            rw [hide_self, hide_ne NS, hN]
          · rw [hide_ne q]
        rw [e]
        exact hR
      exact ⟨m1.ok, upd_same, .one (LstI.rp ⟨hR1, by rw [hl]; omega⟩), hR1⟩
    generalize upd H N (.lst [V.ref R]) = H1 at s1 m1 nm1 ⊢
    refine ⟨_, rfl, R, _, rfl, .inl nm1.show.2, 0, n, by rw [List.length_map, hl, Nat.zero_add]; rfl, by omega, fun r0 c1 c2 => ?_⟩
    have hc0 : r0 ≤ 1000000000 := by
      have h3 : (0 + n) ^ n ≤ 6 ^ 6 := by
        rw [Nat.zero_add]
        exact Nat.le_trans (Nat.pow_le_pow_left n6 n) (Nat.pow_le_pow_right (by decide) n6)
      have h4 : (6 : Nat) ^ 6 = 46656 := by decide
      omega
    refine ⟨_, rfl, S, 3, rfl, nm1.st, by decide, fun kk H2 kk0 kk1 m2 => ⟨kk, rfl, by omega, by omega, ?_⟩⟩
    have m02 := m1.trans m2
    have nm2 := nm1.mv NS m2
    refine for_range (lo := 0) (n := kk.toNat) (fun i σ H3 => ∃ (R1 : Addr) (F : List (List Int)) (row : List Int) (xs : List V) (cnt : Int) (v5 v6 v7 v8 v9 v10 v11 v12 v13 : Option V), σ = [some (.ref S), some (.int 1000000000), some (.ref R1), some (.ref N), some (.int cnt), v5, v6, v7, v8, v9, v10, v11, v12, v13, none] ∧ Mv S S H H3 ∧ NamAt K S N H3 F R1 row xs ∧ Fam F row ∧ F.length ≤ 1 + i ∧ row.length ≤ 9 ∧ 1 ≤ cnt ∧ cnt ≤ bnd i)
      ⟨R, _, _, _, r0, none, none, none, none, none, none, none, none, none, rfl, m02, nm2, fam_start n2 n6, Nat.le_refl 1, by rw [hl]; omega, c1, hc0⟩ (fun i σ H3 hi ⟨R1, F, row, xs, cnt, v5, v6, v7, v8, v9, v10, v11, v12, v13, e3, m3, nm3, fam, lF, lr, q1, q2⟩ => ?_) (fun σ H3 ⟨R1, F, row, xs, cnt, v5, v6, v7, v8, v9, v10, v11, v12, v13, e3, m3, nm3, fam, lF, lr, q1, q2⟩ => ?_)
    · subst e3
      have hi2 : i < 2 := by omega
      have q3 := bnd_le i
      have lxs : xs.length = F.length := by
        have := nm3.rx.length
        rwa [List.length_map] at this
      have lFp : 0 < F.length := List.length_pos_iff.mpr fam.ne
      refine ⟨_, rfl, _, rfl, _, rfl, N, _, rfl, .inl (SqL.of nm3.n), S, _, rfl, nm3.st, by omega, fun r H4 r1 r2 m4 => ?_⟩
      have nm4 := nm3.mv NS m4
      obtain ⟨x, hx⟩ : ∃ x, xs[r.toNat]? = some x := ⟨_, List.getElem?_eq_getElem (by omega)⟩
      obtain ⟨m, c, hm, rfl, hc⟩ := nm4.rx.rowL hx
      have hmF := List.mem_of_getElem? hm
      refine ⟨N, _, r, _, rfl, rfl, SqL.of nm4.n, at_of (j := r.toNat) (by omega) hx, ?_⟩
      refine ⟨_, rfl, R1, rfl, ⟨_, nm4.show.2⟩, fun D hD => ?_⟩
      refine lcL (K := K) (xs := row.map V.int) (fun j => decide (row.getD j 0 ∈ m)) (fun j => .int (row.getD j 0)) hD nm4.show.2 (by rw [List.length_map]; omega) (fun _ _ _ => rfl) (fun j z H5 hj s5 Q1 Q2 k1 k2 => ?_) (fun zs H5 s5 hz5 rz => ?_)
      · obtain ⟨y, hy, rfl⟩ := intAt hj
        have ey : row.getD j 0 = y := by rw [List.getD_eq_getElem?_getD, hy]; rfl
        rw [ey] at k1 k2
        have hc5 := s5.seq ((hide_same S H4).seq ((hide_same N _).seq hc.1))
        refine ⟨rfl, _, rfl, _, rfl, c, _, rfl, .inl hc5, rfl, flat_ints _, _, rfl, ?_⟩
        show if inV (.int y) (m.map V.int) = true then _ else _
        rw [inV_int]
        cases cc : decide (y ∈ m) with
        | false => exact iteF (k2 cc _ (Same.refl _))
        | true => exact iteT ⟨_, rfl, k1 cc _ _ (Same.refl _) (.int y)⟩
      · rw [List.length_map, filter_map_range (fun y : Int => decide (y ∈ m)) (fun y : Int => PyData.int y) 0 row] at rz
        have ez := RpAll.ofInts rz
        subst ez
        have m5 := (Mv.refl m4.ok).then s5
        have nm5 := nm4.mv NS m5
        obtain ⟨o, eo⟩ : ∃ o, o = row.filter fun y => decide (y ∈ m) := ⟨_, rfl⟩
        rw [← eo] at hz5
        have lo : o.length ≤ row.length := by rw [eo]; exact List.length_filter_le _ _
        have DS := free_ne m4.ok hD
        have DN : D ≠ N := fun e => by rw [e, nm4.n] at hD; cases hD
        have h5 := SqL.of (K := K) hz5
        refine ⟨_, rfl, _, rfl, D, _, rfl, .inl h5, 3, ((o.length : Nat) : Int), by rw [List.length_map], ?_⟩
        have emin : (if ((o.length : Nat) : Int) < 3 then ((o.length : Nat) : Int) else 3) = ((min 3 o.length : Nat) : Int) := by split <;> omega
        rw [emin]
        refine ⟨_, _, rfl, rfl, S, _, rfl, m5.ok, by omega, fun mn H6 a1 a2 m6 => ?_⟩
        have nm6 := nm5.mv NS m6
        have hz6 := m6.get DS hz5
        have h6 := SqL.of (K := K) hz6
        refine ⟨_, rfl, _, rfl, D, _, rfl, .inl h6, _, rfl, _, _, rfl, rfl, _, _, rfl, rfl, S, _, rfl, m6.ok, ?_, fun sa H7 b1 b2 m7 => ?_⟩
        · rw [List.length_map]
          omega
        · rw [List.length_map] at b2
          have nm7 := nm6.mv NS m7
          have hz7 := m7.get DS hz6
          have h7 := SqL.of (K := K) hz7
          refine ⟨_, rfl, _, rfl, _, rfl, _, rfl, _, rfl, _, _, rfl, rfl, _, rfl, D, _, rfl, h7, fun M0 hM0 => ?_⟩
          rw [cut_mid (by omega) (by omega) (by omega)]
          obtain ⟨sm, esm⟩ : ∃ sm, sm = (o.drop sa.toNat).take mn.toNat := ⟨_, rfl⟩
          rw [← esm]
          have lsm : sm.length = mn.toNat := by rw [esm, List.length_take, List.length_drop]; omega
          have s8 := same_upd (o := .lst (sm.map V.int)) hM0
          have g8 : upd H7 M0 (.lst (sm.map V.int)) M0 = some (.lst (sm.map V.int)) := upd_same
          generalize upd H7 M0 (.lst (sm.map V.int)) = H8 at s8 g8 ⊢
          have MS := free_ne m7.ok hM0
          have m8 := (Mv.refl m7.ok).then s8
          have nm8 := nm7.mv NS m8
          refine ⟨_, rfl, _, _, rfl, rfl, _, rfl, S, 2, rfl, m8.ok, by decide, fun tw H9 d1 d2 m9 => ?_⟩
          have nm9 := nm8.mv NS m9
          have g9 := m9.get MS g8
          refine ⟨_, _, rfl, rfl, _, rfl, _, _, rfl, rfl, _, _, rfl, _, _, rfl, ?_⟩
          obtain ⟨fr, efr, f1, f2, f3⟩ : ∃ fr : Nat, (if (if 5 - mn < 1 + tw then 5 - mn else 1 + tw) > 2 - mn then (if 5 - mn < 1 + tw then 5 - mn else 1 + tw) else 2 - mn) = (fr : Int) ∧ 1 ≤ fr ∧ fr ≤ 2 ∧ 2 ≤ mn.toNat + fr := by
            refine ⟨(if (if 5 - mn < 1 + tw then 5 - mn else 1 + tw) > 2 - mn then (if 5 - mn < 1 + tw then 5 - mn else 1 + tw) else 2 - mn).toNat, ?_, ?_, ?_, ?_⟩ <;> (repeat' split) <;> omega
          rw [efr]
          have m39 := ((((m4.trans m5).trans m6).trans m7).trans m8).trans m9
          refine ⟨_, rfl, _, rfl, _, rfl, _, rfl, _, _, rfl, rfl, mn.toNat, fr, ?_, by omega, fun tm t1 t2 => ?_⟩
          · have e1 : ((mn.toNat : Nat) : Int) = mn := by omega
            rw [Int.natCast_add, e1]
            rfl
          · refine ⟨_, _, rfl, rfl, .inl ⟨by omega, by omega⟩, _, rfl, _, _, rfl, rfl, _, rfl, ?_⟩
            show if decide (cnt * tm ≤ 1000000000) = true then _ else _
            by_cases cA : cnt * tm ≤ 1000000000
            rotate_left
            · rw [decide_eq_false cA]
              exact iteF (iteF ⟨R1, F, row, xs, cnt, _, _, _, _, _, _, _, _, _, rfl, m3.trans m39, nm9, fam, by omega, lr, q1, Int.le_trans q2 (bnd_mono hi2)⟩)
            · rw [decide_eq_true cA]
              refine iteT ⟨_, rfl, R1, _, rfl, .inl nm9.show.2, _, rfl, _, _, rfl, rfl, _, _, rfl, rfl, _, rfl, ?_⟩
              rw [List.length_map]
              show if decide (((row.length : Nat) : Int) + (fr : Int) ≤ 9) = true then _ else _
              by_cases cB : ((row.length : Nat) : Int) + (fr : Int) ≤ 9
              rotate_left
              · rw [decide_eq_false cB]
                exact iteF ⟨R1, F, row, xs, cnt, _, _, _, _, _, _, _, _, _, rfl, m3.trans m39, nm9, fam, by omega, lr, q1, Int.le_trans q2 (bnd_mono hi2)⟩
              · rw [decide_eq_true cB]
                refine iteT ?_
                refine ⟨_, rfl, _, rfl, _, rfl, _, rfl, _, _, rfl, rfl, mn.toNat, fr, ?_, by omega, fun tm2 u1 u2 => ?_⟩
                · have e1 : ((mn.toNat : Nat) : Int) = mn := by omega
                  rw [Int.natCast_add, e1]
                  rfl
                · refine ⟨_, _, rfl, rfl, .inl ⟨by omega, by omega⟩, ?_⟩
                  have cq : cnt * tm2 ≤ bnd (i + 1) := by
                    have hp := pow_le25 (a := mn.toNat + fr) (f := fr) (by omega) f1 f2
                    exact bnd_step hi2 q2 q1 u1 (by omega)
                  have cq1 : 1 ≤ cnt * tm2 := by
                    have := Int.mul_le_mul q1 u1 (by decide) (by omega)
                    omega
                  have h9 := SqL.of (K := K) g9
                  refine ⟨_, rfl, M0, _, rfl, .inl h9, fun M hM => ?_⟩
                  have sA := same_upd (o := .lst (sm.map V.int)) hM
                  have gA : upd H9 M (.lst (sm.map V.int)) M = some (.lst (sm.map V.int)) := upd_same
                  have mA0 := (Mv.refl m9.ok).then sA
                  have nmA := nm9.mv NS mA0
                  have hMS := free_ne m9.ok hM
                  have hMN : M ≠ N := fun e => by rw [e, nm9.n] at hM; cases hM
                  have hsub : sm.Sublist row := by
                    rw [esm, eo]
                    exact ((List.take_sublist _ _).trans (List.drop_sublist _ _)).trans List.filter_sublist
                  have hR9 : SqL K (hide M (hide N (hide S (upd H9 M (.lst (sm.map V.int)))))) R1 (row.map V.int) := by
                    rw [hide_upd hMS, hide_upd hMN, hide_upd_self]
                    exact sql_free ((hide_same N _).trans (hide_same S H9)) hM nm9.hr
                  refine ⟨_, rfl, fr, rfl, by omega, by omega, ?_⟩
                  refine for_range (lo := 0) (n := fr) (fun j σ HB => ∃ (Rj : Addr) (rj : List Int) (v13 : Option V), σ = [some (.ref S), some (.int 1000000000), some (.ref Rj), some (.ref N), some (.int (cnt * tm2)), some (.int (0 + (i : Int))), some (.ref c), some (.ref D), some (.int mn), some (.int sa), some (.ref M0), some (.int (fr : Int)), some (.ref M), v13, none] ∧ Mv S S H9 HB ∧ Hung sm row j rj ∧ SqL K (hide M (hide N (hide S HB))) Rj (rj.map V.int) ∧ HB M = some (.lst ((sm ++ newL row.length j).map V.int)))
                    ⟨R1, row, _, rfl, mA0, Hung.zero fam, hR9, by rw [gA]; unfold newL; rw [List.range_zero, List.map_nil, List.append_nil]⟩ (fun j σ HB hj ⟨Rj, rj, v13, e5, mB, hu, hRj, gM⟩ => ?_) (fun σ HB ⟨Rj, rj, v13, e5, mB, hu, hRj, gM⟩ => ?_)
                  · subst e5
                    have nmB := nm9.mv NS mB
                    have hRj0 : SqL K HB Rj (rj.map V.int) := (hide_same S HB).seq ((hide_same N _).seq ((hide_same M _).seq hRj))
                    refine ⟨_, rfl, .inl ⟨rfl, _, SqL.of gM⟩, _, rfl, Rj, _, rfl, .inl hRj0, M, _, _, rfl, rfl, gM, ?_, ?_⟩
                    · rw [List.length_map, List.length_append]
                      have e1 : (newL row.length j).length = j := by unfold newL; rw [List.length_map, List.length_range]
                      exact Nat.lt_of_lt_of_le (by omega : sm.length + (newL row.length j).length < 1000) (by decide)
                    · rw [List.length_map]
                      have e6 : upd HB M (.lst ((sm ++ newL row.length j).map V.int ++ [V.int ((rj.length : Nat) : Int)])) M = some (.lst ((sm ++ newL row.length (j + 1)).map V.int)) := by
                        rw [upd_same, newL_succ, hu.len, ← List.append_assoc, List.map_append (l₁ := sm ++ newL row.length j)]
                        rfl
                      have mC : Mv S S H9 (upd HB M (.lst ((sm ++ newL row.length j).map V.int ++ [V.int ((rj.length : Nat) : Int)]))) := Mv.put m9.ok hM mB
                      have hRC : SqL K (hide M (hide N (hide S (upd HB M (.lst ((sm ++ newL row.length j).map V.int ++ [V.int ((rj.length : Nat) : Int)])))))) Rj (rj.map V.int) := by
                        rw [hide_upd hMS, hide_upd hMN, hide_upd_self]
                        exact hRj
                      generalize upd HB M (.lst ((sm ++ newL row.length j).map V.int ++ [V.int ((rj.length : Nat) : Int)])) = HC at e6 mC hRC ⊢
                      have gC := mC.get MS g9
                      have nmC := nm9.mv NS mC
                      have hRC2 : SqL K (hide S HC) Rj (rj.map V.int) := (hide_same N _).seq ((hide_same M _).seq hRC)
                      have lrj := hu.len
                      refine ⟨_, rfl, _, rfl, _, rfl, S, Rj, M0, rj, sm, rfl, mC.ok, hRC2, SqL.of (by rw [hide_ne MS]; exact gC), by omega, hu.hang.nd, hu.sub hsub, fun p q HD hp hq mD hqR => ?_⟩
                      have hqN : q ≠ N := fun e => by rw [e, nmC.n] at hq; cases hq
                      have hqM : q ≠ M := fun e => by rw [e, e6] at hq; cases hq
                      exact ⟨q, _, _, rfl, mC.trans mD, hu.next (fun z hz => hsub.subset hz) hp, sql_hide hqM (sql_hide hqN hqR), mD.get hMS e6⟩
                  · subst e5
                    have nmB := nm9.mv NS mB
                    refine ⟨_, rfl, .inl ⟨rfl, _, SqL.of nmB.n⟩, _, rfl, N, _, _, rfl, rfl, nmB.n, Nat.lt_of_lt_of_le (by omega : xs.length < 1000) (by decide), ?_⟩
                    have m3B := m3.trans (m39.trans mB)
                    have mE : Mv S S H (upd HB N (.lst (xs ++ [V.ref M]))) := Mv.put st hN m3B
                    have lmk : (sm ++ newL row.length fr).length = mn.toNat + fr := by
                      have e1 : (newL row.length fr).length = fr := by unfold newL; rw [List.length_map, List.length_range]
                      rw [List.length_append, lsm, e1]
                    refine ⟨Rj, F ++ [sm ++ newL row.length fr], rj, xs ++ [.ref M], _, _, _, _, _, _, _, _, _, _, rfl, mE, ⟨mE.ok, upd_same, ?_, ?_⟩, ?_, ?_, ?_, cq1, cq⟩
                    · rw [hide_upd NS, hide_upd_self, List.map_append]
                      refine nmB.rx.app (.one (LstI.rp ⟨SqL.of ?_, by rw [lmk]; omega⟩))
                      rw [hide_ne hMN, hide_ne hMS]
                      exact gM
                    · rw [hide_upd NS, hide_upd_self]
                      exact (hide_same M _).seq hRj
                    · have h2 : 2 ≤ sm.length + fr := by omega
                      have h6 : sm.length + fr ≤ 6 := by omega
                      rw [esm, eo] at hu h2 h6 ⊢
                      exact fam_step fam hmF hu h2 h6
                    · rw [List.length_append]
                      show F.length + 1 ≤ _
                      omega
                    · have := hu.len
                      omega
    · subst e3
      refine ⟨_, rfl, _, rfl, (by show 2 ≤ sizeLine; decide), fun t ht => ?_⟩
      have st4 := same_upd (o := .tup [V.ref N, .ref R1]) ht
      have tS := free_ne m3.ok ht
      have m4 := (Mv.refl m3.ok).then st4
      exact k t N R1 F row xs _ (m3.trans m4) (SqT.of (by rw [hide_ne tS, upd_same])) (nm3.mv NS m4) NS fam (by omega) lr
end
end LK
/-! the lists by their places in the line -/
namespace LK
open PySem PySem.Spec PyProof.Rows L2
theorem fam_more {F : List (List Int)} {row row' : List Int} (h : Fam F row) (hh : Hung [] row 1 row') : Fam F row' := by
  refine ⟨hh.hang.nd, hh.mem, fun r hr x hx => hh.hang.sub.subset (h.inn r hr x hx), h.rnd, h.two, fun r hr x hx y hy w b1 b2 t1 t2 => ?_, h.ne⟩
  have hw : w ∈ row := by
    obtain ⟨_, r1, hr1, _, hw⟩ := t1
    exact h.inn r1 hr1 w hw
  exact h.fill r hr x hx y hy w (bf_down hh.hang.sub hh.hang.nd (h.inn r hr x hx) hw b1) (bf_down hh.hang.sub hh.hang.nd hw (h.inn r hr y hy) b2) t1 t2
/-- the places of a list's things, ascending -/
def posL (row r : List Int) : List Int := srt (r.map fun x => ((row.idxOf x : Nat) : Int))
theorem posL_mem {row r : List Int} {z : Int} : z ∈ posL row r ↔ ∃ x ∈ r, ((row.idxOf x : Nat) : Int) = z := by
  unfold posL
  rw [(srt_perm _).mem_iff, List.mem_map]
theorem posL_len (row r : List Int) : (posL row r).length = r.length := by
  unfold posL
  rw [srt_length, List.length_map]
theorem posL_asc {row r : List Int} (hin : ∀ x ∈ r, x ∈ row) (nd : r.Nodup) : (posL row r).Pairwise (· < ·) := by
  have h1 : (posL row r).Pairwise (· ≤ ·) := srt_pw _
  have h2 : (posL row r).Nodup := by
    refine (srt_perm _).nodup_iff.mpr ?_
    rw [List.Nodup, List.pairwise_map]
    refine List.Pairwise.imp_of_mem (fun {a b} ha hb h e => h (idx_inj (hin a ha) (hin b hb) (by omega))) nd
  exact (h1.and h2).imp fun ⟨a, b⟩ => by omega
theorem tiedB_iff {rows : List (List Int)} {x y : Int} : tiedB rows x y = true ↔ ∃ r ∈ rows, x ∈ r ∧ y ∈ r := by
  unfold tiedB
  rw [List.any_eq_true]
  constructor
  · rintro ⟨r, hr, h⟩
    rw [Bool.and_eq_true, decide_eq_true_eq, decide_eq_true_eq] at h
    exact ⟨r, hr, h⟩
  · rintro ⟨r, hr, h⟩
    exact ⟨r, hr, by rw [Bool.and_eq_true, decide_eq_true_eq, decide_eq_true_eq]; exact h⟩
theorem tiedB_symm {rows : List (List Int)} {x y : Int} (h : tiedB rows x y = true) : tiedB rows y x = true := by
  obtain ⟨r, hr, a, b⟩ := tiedB_iff.mp h
  exact tiedB_iff.mpr ⟨r, hr, b, a⟩
/-- a base of lists: what lies between two things of one and is tied to both lies in it -/
structure Whole (n : Int) (B : List (List Int)) : Prop where
  inn : RowsIn n B
  asc : ∀ r ∈ B, r.Pairwise (· < ·)
  len : ∀ r ∈ B, 2 ≤ r.length ∧ r.length ≤ 6
  few : B.length ≤ 3
  fill : ∀ r ∈ B, ∀ x ∈ r, ∀ y ∈ r, ∀ w, x < w → w < y → tiedB B x w = true → tiedB B w y = true → w ∈ r
theorem whole_fam {F : List (List Int)} {row : List Int} (h : Fam F row) (h3 : F.length ≤ 3) : Whole row.length (F.map (posL row)) := by
  refine ⟨fun r hr x hx => ?_, fun r hr => ?_, fun r hr => ?_, by rw [List.length_map]; exact h3, fun r hr x hx y hy w b1 b2 t1 t2 => ?_⟩
  · obtain ⟨q, hq, rfl⟩ := List.mem_map.mp hr
    obtain ⟨z, hz, rfl⟩ := posL_mem.mp hx
    have := List.idxOf_lt_length_iff.mpr (h.inn q hq z hz)
    omega
  · obtain ⟨q, hq, rfl⟩ := List.mem_map.mp hr
    exact posL_asc (h.inn q hq) (h.rnd q hq)
  · obtain ⟨q, hq, rfl⟩ := List.mem_map.mp hr
    rw [posL_len]
    exact h.two q hq
  · obtain ⟨q, hq, rfl⟩ := List.mem_map.mp hr
    obtain ⟨x', hx', rfl⟩ := posL_mem.mp hx
    obtain ⟨y', hy', rfl⟩ := posL_mem.mp hy
    obtain ⟨r1, hr1, ha1, hb1⟩ := tiedB_iff.mp t1
    obtain ⟨q1, hq1, rfl⟩ := List.mem_map.mp hr1
    obtain ⟨x1, hx1, e1⟩ := posL_mem.mp ha1
    obtain ⟨w', hw', rfl⟩ := posL_mem.mp hb1
    obtain ⟨r2, hr2, ha2, hb2⟩ := tiedB_iff.mp t2
    obtain ⟨q2, hq2, rfl⟩ := List.mem_map.mp hr2
    obtain ⟨w2, hw2, e2⟩ := posL_mem.mp ha2
    obtain ⟨y2, hy2, e3⟩ := posL_mem.mp hb2
    have ix := idx_inj (h.inn q1 hq1 x1 hx1) (h.inn q hq x' hx') (by omega)
    have iw := idx_inj (h.inn q2 hq2 w2 hw2) (h.inn q1 hq1 w' hw') (by omega)
    have iy := idx_inj (h.inn q2 hq2 y2 hy2) (h.inn q hq y' hy') (by omega)
    subst ix iw iy
    have f1 := idx_bf (h.inn q hq x1 hx') (h.inn q1 hq1 w2 hw') (by omega)
    have f2 := idx_bf (h.inn q1 hq1 w2 hw') (h.inn q hq y2 hy') (by omega)
    exact posL_mem.mpr ⟨w2, h.fill q hq x1 hx' y2 hy' w2 f1 f2 ⟨bf_ne h.nd f1, q1, hq1, hx1, hw'⟩ ⟨bf_ne h.nd f2, q2, hq2, hw2, hy2⟩, rfl⟩
/-- the same ties -/
def TieEq (rows B : List (List Int)) : Prop := ∀ x y, x ≠ y → tiedB rows x y = tiedB B x y
theorem whole_btw {n : Int} {rows B : List (List Int)} (h : Whole n B) (e : TieEq rows B) {a b : Int} (lt : a < b) (t : tiedB rows a b = true) : ∃ r ∈ B, a ∈ r ∧ b ∈ r ∧ ∀ w ∈ btw n rows a b, w ∈ r := by
  rw [e a b (by omega)] at t
  obtain ⟨r, hr, ha, hb⟩ := tiedB_iff.mp t
  refine ⟨r, hr, ha, hb, fun w hw => ?_⟩
  obtain ⟨h1, h2, _, _, t1, t2⟩ := btw_mem.mp hw
  rw [e a w (by omega)] at t1
  rw [e b w (by omega)] at t2
  exact h.fill r hr a ha b hb w h1 h2 t1 (tiedB_symm t2)
/-- the things of a tie -/
def thingsT (n : Int) (rows : List (List Int)) (a b : Int) : List Int := (a :: btw n rows a b) ++ [b]
theorem whole_cliq {n : Int} {rows B : List (List Int)} (h : Whole n B) (e : TieEq rows B) {a b : Int} (lt : a < b) (t : tiedB rows a b = true) {x y : Int} (hx : x ∈ thingsT n rows a b) (hy : y ∈ thingsT n rows a b) (ne : x ≠ y) : tiedB rows x y = true := by
  obtain ⟨r, hr, ha, hb, hw⟩ := whole_btw h e lt t
  have k : ∀ z ∈ thingsT n rows a b, z ∈ r := fun z hz => by
    rcases List.mem_append.mp hz with hz | hz
    · rcases List.mem_cons.mp hz with rfl | hz
      · exact ha
      · exact hw z hz
    · rw [List.mem_singleton] at hz
      exact hz ▸ hb
  rw [e x y ne]
  exact tiedB_iff.mpr ⟨r, hr, k x hx, k y hy⟩
theorem whole_len {n : Int} {rows B : List (List Int)} (h : Whole n B) (e : TieEq rows B) {a b : Int} (lt : a < b) (t : tiedB rows a b = true) : (btw n rows a b).length ≤ 4 := by
  obtain ⟨r, hr, ha, hb, hw⟩ := whole_btw h e lt t
  have nd : (a :: b :: btw n rows a b).Nodup := by
    have h1 : (btw n rows a b).Nodup := (btw_pw n rows a b).imp fun h => by omega
    refine List.nodup_cons.mpr ⟨fun z => ?_, List.nodup_cons.mpr ⟨fun z => ?_, h1⟩⟩
    · rcases List.mem_cons.mp z with z | z
      · omega
      · have := (btw_mem.mp z).1
        omega
    · have := (btw_mem.mp z).2.1
      omega
  have := nodup_leG nd (m := r) fun z hz => by
    rcases List.mem_cons.mp hz with rfl | hz
    · exact ha
    · rcases List.mem_cons.mp hz with rfl | hz
      · exact hb
      · exact hw z hz
  have := (h.len r hr).2
  simp at *
  omega
theorem flat_len {A B : Type} {f : A → List B} {c : Nat} : ∀ {l : List A}, (∀ a ∈ l, (f a).length ≤ c) → (l.flatMap f).length ≤ l.length * c
  | [], _ => by simp
  | a :: l, h => by
    rw [List.flatMap_cons, List.length_append, List.length_cons, Nat.add_mul, Nat.one_mul]
    have := h a (by simp)
    have := flat_len (l := l) fun b hb => h b (by simp [hb])
    omega
theorem whole_few {n : Int} {rows B : List (List Int)} (h : Whole n B) (e : TieEq rows B) (h0 : 0 ≤ n) (h10 : n ≤ 10) : (ropesAll n rows).length ≤ 720 := by
  have h1 : (ropesAll n rows).length ≤ (tiesL n rows).length * 16 := by
    refine flat_len fun t ht => ?_
    obtain ⟨lo, hi, rfl, hlt, _, tt⟩ := tiesL_in ht
    have h4 := whole_len h e (a := (lo : Int)) (b := (hi : Int)) (by omega) tt
    unfold ropesAt
    rw [List.length_map, lotsF_len]
    have : (2 : Nat) ^ (btw n rows ([(lo : Int), (hi : Int)].getD 0 0) ([(lo : Int), (hi : Int)].getD 1 0)).length ≤ 2 ^ 4 := Nat.pow_le_pow_right (by decide) h4
    omega
  have h2 := tiesL_len10 (rows := rows) h10
  omega
end LK
namespace LK
open PySem PySem.Spec PyProof.Rows L2
/-- what is known of the book that is made -/
structure BookW (n : Int) (rows B : List (List Int)) : Prop where
  n1 : 1 ≤ n
  n10 : n ≤ 10
  inn : RowsIn n rows
  wh : Whole n B
  te : TieEq rows B
  few : rows.length ≤ 40
  len : ∀ r ∈ rows, r.length ≤ 6
  prs : (rows.flatMap pairsL).length ≤ 300
theorem noL_bookW (n : Int) (rows : List (List Int)) : noL (bookD n rows) = true := by
  show noLs [.int n, .tuple (rows.map dTup)] = true
  have h := noLs_rows rows
  show (true && (noLs (rows.map dTup) && true)) = true
  rw [h]
  rfl
theorem at_lastV {l : List V} {x : V} (h : l[l.length - 1]? = some x) : atI l (-1) = some x := by
  have hl : 0 < l.length := by
    cases l with
    | nil => cases h
    | cons => exact Nat.succ_pos _
  have e : ixN l.length (-1) = some (l.length - 1) := by
    unfold ixN
    rw [if_neg (by decide), if_pos (by omega)]
    congr 1
    omega
  unfold atI
  rw [e]
  exact h
theorem tieEq_refl (B : List (List Int)) : TieEq B B := fun _ _ _ => rfl
theorem tieEq_add {rows B : List (List Int)} {r : List Int} (h : TieEq rows B) (k : ∀ x ∈ r, ∀ y ∈ r, x ≠ y → tiedB rows x y = true) : TieEq (rows ++ [r]) B := fun x y ne => by
  rw [← h x y ne]
  rw [Bool.eq_iff_iff]
  constructor
  · intro t
    obtain ⟨q, hq, hx, hy⟩ := tiedB_iff.mp t
    rcases List.mem_append.mp hq with hq | hq
    · exact tiedB_iff.mpr ⟨q, hq, hx, hy⟩
    · rw [List.mem_singleton] at hq
      subst hq
      exact k x hx y hy ne
  · intro t
    obtain ⟨q, hq, hx, hy⟩ := tiedB_iff.mp t
    exact tiedB_iff.mpr ⟨q, List.mem_append_left _ hq, hx, hy⟩
/-- rows that have the ties of the base -/
structure RowsW (n : Int) (rows B : List (List Int)) (m : Nat) : Prop where
  te : TieEq rows B
  inn : RowsIn n rows
  len : ∀ r ∈ rows, 2 ≤ r.length ∧ r.length ≤ 6
  ne : rows ≠ []
  few : rows.length ≤ m
theorem RowsW.add {n : Int} {rows B : List (List Int)} {m : Nat} {r : List Int} (h : RowsW n rows B m) {q : List Int} (hq : q ∈ rows) (k : ∀ x ∈ r, x ∈ q) (l : 2 ≤ r.length ∧ r.length ≤ 6) : RowsW n (rows ++ [r]) B (m + 1) := by
  refine ⟨tieEq_add h.te fun x hx y hy _ => tiedB_iff.mpr ⟨q, hq, k x hx, k y hy⟩, fun z hz x hx => ?_, fun z hz => ?_, by simp, by rw [List.length_append]; have := h.few; show _ + 1 ≤ _; omega⟩
  · rcases List.mem_append.mp hz with hz | hz
    · exact h.inn z hz x hx
    · rw [List.mem_singleton] at hz
      subst hz
      exact h.inn q hq x (k x hx)
  · rcases List.mem_append.mp hz with hz | hz
    · exact h.len z hz
    · rw [List.mem_singleton] at hz
      exact hz ▸ l
theorem RowsW.mono {n : Int} {rows B : List (List Int)} {m m' : Nat} (h : RowsW n rows B m) (l : m ≤ m') : RowsW n rows B m' := ⟨h.te, h.inn, h.len, h.ne, Nat.le_trans h.few l⟩
theorem pairsL_mem {l t : List Int} : t ∈ pairsL l ↔ ∃ x ∈ l, ∃ y ∈ l, x < y ∧ t = [x, y] := by
  unfold pairsL
  rw [List.mem_flatMap]
  constructor
  · rintro ⟨x, hx, h⟩
    obtain ⟨y, hy, rfl⟩ := List.mem_map.mp h
    have := List.mem_filter.mp hy
    exact ⟨x, hx, y, this.1, by simpa using this.2, rfl⟩
  · rintro ⟨x, hx, y, hy, lt, rfl⟩
    exact ⟨x, hx, List.mem_map.mpr ⟨y, List.mem_filter.mpr ⟨hy, by simpa using lt⟩, rfl⟩⟩
theorem pairsTo_all (l : List Int) : pairsTo l l.length = pairsL l := by
  unfold pairsTo pairsL
  rw [List.take_length]
structure RowsV (n : Int) (rows B : List (List Int)) : Prop where
  te : TieEq rows B
  inn : RowsIn n rows
  len : ∀ r ∈ rows, r.length ≤ 6
  few : rows.length ≤ 40
  prs : (rows.flatMap pairsL).length ≤ 300
theorem prs_len {l : List Int} {c : Nat} (h : l.length ≤ c) : (pairsL l).length ≤ c * c := Nat.le_trans (pairs_len l l) (Nat.mul_le_mul h h)
theorem RowsW.v {n : Int} {rows B : List (List Int)} (h : RowsW n rows B 5) : RowsV n rows B := ⟨h.te, h.inn, fun r hr => (h.len r hr).2, Nat.le_trans h.few (by decide), by
  have h1 := flat_len (f := pairsL) (c := 6 * 6) (l := rows) fun r hr => prs_len (h.len r hr).2
  have := h.few
  omega⟩
theorem RowsW.pairs {n : Int} {rows B : List (List Int)} {l : List Int} (h : RowsW n rows B 5) (h0 : rows[0]? = some l) (h4 : l.length ≤ 4) : RowsV n (pairsL l ++ rows.drop 1) B := by
  have hl := List.mem_of_getElem? h0
  have e : rows = l :: rows.drop 1 := by
    cases rows with
    | nil => cases h0
    | cons a r => injection h0 with h0; rw [h0]; rfl
  refine ⟨fun x y ne => ?_, fun r hr x hx => ?_, fun r hr => ?_, ?_, ?_⟩
  · rw [← h.te x y ne, Bool.eq_iff_iff]
    constructor
    · intro t
      obtain ⟨q, hq, hx, hy⟩ := tiedB_iff.mp t
      rcases List.mem_append.mp hq with hq | hq
      · obtain ⟨a, ha, b, hb, _, rfl⟩ := pairsL_mem.mp hq
        have k : ∀ z ∈ [a, b], z ∈ l := fun z hz => by
          rcases List.mem_cons.mp hz with rfl | hz
          · exact ha
          · rw [List.mem_singleton] at hz; exact hz ▸ hb
        exact tiedB_iff.mpr ⟨l, hl, k x hx, k y hy⟩
      · exact tiedB_iff.mpr ⟨q, List.mem_of_mem_drop hq, hx, hy⟩
    · intro t
      obtain ⟨q, hq, hx, hy⟩ := tiedB_iff.mp t
      rw [e] at hq
      rcases List.mem_cons.mp hq with hq | hq
      · rw [hq] at hx hy
        rcases (by omega : x < y ∨ y < x) with lt | lt
        · exact tiedB_iff.mpr ⟨[x, y], List.mem_append_left _ (pairsL_mem.mpr ⟨x, hx, y, hy, lt, rfl⟩), by simp, by simp⟩
        · exact tiedB_iff.mpr ⟨[y, x], List.mem_append_left _ (pairsL_mem.mpr ⟨y, hy, x, hx, lt, rfl⟩), by simp, by simp⟩
      · exact tiedB_iff.mpr ⟨q, List.mem_append_right _ hq, hx, hy⟩
  · rcases List.mem_append.mp hr with hr | hr
    · obtain ⟨a, ha, b, hb, _, rfl⟩ := pairsL_mem.mp hr
      rcases List.mem_cons.mp hx with rfl | hx
      · exact h.inn l hl x ha
      · rw [List.mem_singleton] at hx; exact hx ▸ h.inn l hl b hb
    · exact h.inn r (List.mem_of_mem_drop hr) x hx
  · rcases List.mem_append.mp hr with hr | hr
    · obtain ⟨a, ha, b, hb, _, rfl⟩ := pairsL_mem.mp hr
      show 2 ≤ 6
      decide
    · exact (h.len r (List.mem_of_mem_drop hr)).2
  · have := pairs_len l l
    have h1 : l.length * l.length ≤ 4 * 4 := Nat.mul_le_mul h4 h4
    have h2 := h.few
    rw [List.length_append, List.length_drop]
    unfold pairsL
    omega
  · rw [List.flatMap_append, List.length_append]
    have h1 := flat_len (f := pairsL) (c := 2 * 2) (l := pairsL l) fun r hr => by
      obtain ⟨a, _, b, _, _, rfl⟩ := pairsL_mem.mp hr
      exact prs_len (Nat.le_refl 2)
    have h2 := flat_len (f := pairsL) (c := 6 * 6) (l := rows.drop 1) fun r hr => prs_len (h.len r (List.mem_of_mem_drop hr)).2
    have h3 := prs_len h4
    have h5 := h.few
    have h6 : (rows.drop 1).length ≤ rows.length := by rw [List.length_drop]; omega
    omega
def spMakeBook (K : PySem.W.Frag) : Sp := fun vs H Q _ => ∃ (S : Addr), vs = [.ref S, .int 1000000000] ∧ StOk H S S ∧ ∀ v n rows B H', Mv S S H H' → Rp K (hide S H') v (bookD n rows) → BookW n rows B → Q v H'
theorem rgV_newL (n : Nat) : rgV 0 (n : Int) = (newL 0 n).map V.int := by
  unfold rgV newL
  have : ((n : Int) - 0).toNat = n := by omega
  rw [this, List.map_map]
  refine List.map_congr_left fun i _ => ?_
  show V.int _ = V.int _
  congr 1
section
variable {P : Program} {w : World} {K : PySem.W.Frag} {mg : Str → Option Value} {base : Heap} {ad : Nat → Addr} {fd : Nat → FuncData}
theorem ok__law_make_book (T : Txt K mg ad fd) : FnOk P w K mg base CX0 4 (ad 44) (fd 44) ["_law_d", "_law_most"] (spMakeBook K) := by
  refine T.F__law_make_book.ok sc__law_make_book (fun vs H Q E h => ?_) (fun cdv A outer s H vs Q E hr h => ?_)
  · obtain ⟨S, rfl, _⟩ := h
    rfl
  · obtain ⟨S, rfl, st, k⟩ := h
    refine ⟨_, (pss_cons (ps_set (i := 2) sc__law_make_book.nd rfl (Or.inl rfl) (pe_call (ok__law_named T) (hr.mono (by decide)) rfl T.m__law_named T.F__law_named.kp (b__law_named T) .nil pass0 (pa_cons (pv 0) (pa_cons (pv 1) (pa_cons (pe_listRg rfl rfl T.g_list (prg_1 rfl T.g_range (pe_ix (ixL K) (pe_lst (pa_cons pe_int (pa_cons pe_int (pa_cons pe_int (pa_cons pe_int (pa_cons pe_int (pa_cons pe_int (pa_cons pe_int (pa_cons pe_int pa_nil))))))))) (pe_call (ok__law_take T) (hr.mono (by decide)) rfl T.m__law_take T.F__law_take.kp (b__law_take T) .nil pass0 (pa_cons (pv 0) (pa_cons pe_int pa_nil))) (fun _ _ => rfl)))) pa_nil)))))
  (pss_cons (ps_set (i := 3) sc__law_make_book.nd rfl (Or.inr rfl) (pe_ix (ixT K) (pv 2) pe_int (fun _ _ => rfl)))
  (pss_cons (ps_set (i := 4) sc__law_make_book.nd rfl (Or.inl rfl) (pe_call (ok__law_take T) (hr.mono (by decide)) rfl T.m__law_take T.F__law_take.kp (b__law_take T) .nil pass0 (pa_cons (pv 0) (pa_cons pe_int pa_nil))))
  (pss_cons (ps_if (pt_cmpR op_eq (pv 4) pe_int (nomark _)) (pss_cons (ps_set (i := 7) sc__law_make_book.nd rfl (Or.inl rfl) (pe_call (ok__law_take T) (hr.mono (by decide)) rfl T.m__law_take T.F__law_take.kp (b__law_take T) .nil pass0 (pa_cons (pv 0) (pa_cons (pe_op op_add (pe_callB (lenS K) (by rfl) T.g_len (by decide +kernel) (pa_cons (pv 3) pa_nil)) pe_int) pa_nil))))
  (pss_one (ps_set (i := 3) sc__law_make_book.nd rfl (Or.inr rfl) (pe_op (catL K) (pe_op (catL K) (pe_slice (slL K) (pv 3) po_none (po_some (pv 7))) (pe_lst (pa_cons (pe_callB (lenS K) (by rfl) T.g_len (by decide +kernel) (pa_cons (pv 3) pa_nil)) pa_nil))) (pe_slice (slL K) (pv 3) (po_some (pv 7)) po_none)))))
  pss_nil)
  (pss_cons (ps_set (i := 5) sc__law_make_book.nd rfl (Or.inl rfl) (pe_lst pa_nil))
  (pss_cons (ps_for PassesOwn.never rfl (piL K (pe_ix (ixT K) (pv 2) pe_int (fun _ _ => rfl))) (pg_name (i := 6) (x := "_law_made") sc__law_make_book.nd rfl (Or.inl rfl))
  (pss_one (ps_expr (pe_bmK K PySem.F.plainAttrs_list PySem.F.slot_list_append PySem.F.type_list_append mt_append (pv 5) (pa_cons (pe_callTy (tupOf K) (by rfl) T.g_tuple (by decide +kernel) (pa_cons (pe_callB (srtI K) (by rfl) T.g_sorted (by decide +kernel) (pa_cons (pe_lc (own := [("_law_x", 9)]) (g := gName 9) rfl sc__law_make_book.nd (piL K (pv 6)) (blkOk_by (N := ["_law_d", "_law_most", "_law_got", "_law_row", "_law_way", "_law_lists", "_law_made", "_law_place", "_law_pairs", "_law_x", "_law_y"]) (sc := defScope s__law_make_book) (by decide +kernel)) (fun _ _ _ _ _ => (pg_name (i := 9) (x := "_law_x") sc__law_make_book.nd rfl (Or.inl rfl))) (fun _ _ _ _ _ => pts_nil) (fun _ _ _ _ _ => (pe_bmK K PySem.F.plainAttrs_list PySem.F.slot_list_index PySem.F.type_list_index (mtIndex K) (pv 3) (pa_cons (pv 9) pa_nil)))) pa_nil)) pa_nil)) pa_nil)))))
  (pss_cons (ps_if (pt_cmpR op_eq (pv 4) pe_int (nomark _)) (pss_one (ps_expr (pe_bmK K PySem.F.plainAttrs_list PySem.F.slot_list_append PySem.F.type_list_append mt_append (pv 5) (pa_cons (pe_ix (ixL K) (pv 5) pe_int (fun _ _ => rfl)) pa_nil))))
  pss_nil)
  (pss_cons (ps_if (pt_cmpR op_eq (pv 4) pe_int (nomark _)) (pss_one (ps_expr (pe_bmK K PySem.F.plainAttrs_list PySem.F.slot_list_append PySem.F.type_list_append mt_append (pv 5) (pa_cons (pe_tup (pa_cons (pe_ix (ixT K) (pe_ix (ixL K) (pv 5) (pe_un un_neg pe_int) (fun _ _ => rfl)) pe_int (fun _ _ => rfl)) (pa_cons (pe_ix (ixT K) (pe_ix (ixL K) (pv 5) (pe_un un_neg pe_int) (fun _ _ => rfl)) (pe_un un_neg pe_int) (fun _ _ => rfl)) pa_nil))) pa_nil))))
  pss_nil)
  (pss_cons (ps_if (PW.pt (pw_and (pt_cmpR op_eq (pv 4) pe_int (nomark _)) (pw_and1 (pt_cmpR op_le (pe_callB (lenS K) (by rfl) T.g_len (by decide +kernel) (pa_cons (pe_ix (ixL K) (pv 5) pe_int (fun _ _ => rfl)) pa_nil)) pe_int (nomark _))))) (pss_cons (ps_set (i := 8) sc__law_make_book.nd rfl (Or.inl rfl) (pe_lst pa_nil))
  (pss_cons (ps_for PassesOwn.never rfl (piT K (pe_ix (ixL K) (pv 5) pe_int (fun _ _ => rfl))) (pg_name (i := 9) (x := "_law_x") sc__law_make_book.nd rfl (Or.inr rfl))
  (pss_one (ps_set (i := 8) sc__law_make_book.nd rfl (Or.inl rfl) (pe_op (catL K) (pv 8) (pe_lc (own := [("_law_y", 10)]) (g := gName 10) rfl sc__law_make_book.nd (piT K (pe_ix (ixL K) (pv 5) pe_int (fun _ _ => rfl))) (blkOk_by (N := ["_law_d", "_law_most", "_law_got", "_law_row", "_law_way", "_law_lists", "_law_made", "_law_place", "_law_pairs", "_law_x", "_law_y"]) (sc := defScope s__law_make_book) (by decide +kernel)) (fun _ _ _ _ _ => (pg_name (i := 10) (x := "_law_y") sc__law_make_book.nd rfl (Or.inl rfl))) (fun _ _ _ _ _ => (pts_one (pt_cmpR op_lt (pv 9) (pv 10) (nomark _)))) (fun _ _ _ _ _ => (pe_tup (pa_cons (pv 9) (pa_cons (pv 10) pa_nil)))))))))
  (pss_one (ps_set (i := 5) sc__law_make_book.nd rfl (Or.inl rfl) (pe_op (catL K) (pv 8) (pe_slice (slL K) (pv 5) (po_some pe_int) po_none))))))
  pss_nil)
  (pss_cons (ps_if (pt_cmpR op_eq (pv 4) pe_int (nomark _)) (pss_one (ps_ret (pe_tup (pa_cons (pe_op op_add pe_int (pe_call (ok__law_take T) (hr.mono (by decide)) rfl T.m__law_take T.F__law_take.kp (b__law_take T) .nil pass0 (pa_cons (pv 0) (pa_cons (pe_callB (lenS K) (by rfl) T.g_len (by decide +kernel) (pa_cons (pv 3) pa_nil)) pa_nil)))) (pa_cons (pe_tup pa_nil) pa_nil)))))
  pss_nil)
  (pss_one (ps_ret (pe_tup (pa_cons (pe_callB (lenS K) (by rfl) T.g_len (by decide +kernel) (pa_cons (pv 3) pa_nil)) (pa_cons (pe_callTy (tupOf K) (by rfl) T.g_tuple (by decide +kernel) (pa_cons (pv 5) pa_nil)) pa_nil))))))))))))))), ?_⟩
    refine ⟨_, rfl, _, rfl, (by show 8 ≤ sizeLine; decide), fun L8 hL8 => ?_⟩
    have g8 : upd H L8 (.lst [V.int 3, .int 4, .int 2, .int 5, .int 3, .int 4, .int 6, .int 3]) L8 = some (.lst [V.int 3, .int 4, .int 2, .int 5, .int 3, .int 4, .int 6, .int 3]) := upd_same
    have s8 := same_upd (o := .lst [V.int 3, .int 4, .int 2, .int 5, .int 3, .int 4, .int 6, .int 3]) hL8
    have L8S := free_ne st hL8
    have m1 := (Mv.refl st).then s8
    generalize upd H L8 (.lst [V.int 3, .int 4, .int 2, .int 5, .int 3, .int 4, .int 6, .int 3]) = H1 at g8 s8 m1 ⊢
    refine ⟨_, rfl, S, 8, rfl, m1.ok, by decide, fun r H2 r0 r1 m2 => ?_⟩
    have g82 := m2.get L8S g8
    obtain ⟨n, hn, n2, n6⟩ : ∃ n : Nat, [V.int 3, .int 4, .int 2, .int 5, .int 3, .int 4, .int 6, .int 3][r.toNat]? = some (.int (n : Int)) ∧ 2 ≤ n ∧ n ≤ 6 := by
      rcases (by omega : r = 0 ∨ r = 1 ∨ r = 2 ∨ r = 3 ∨ r = 4 ∨ r = 5 ∨ r = 6 ∨ r = 7) with h | h | h | h | h | h | h | h <;> subst h
      · exact ⟨3, rfl, by decide, by decide⟩
      · exact ⟨4, rfl, by decide, by decide⟩
      · exact ⟨2, rfl, by decide, by decide⟩
      · exact ⟨5, rfl, by decide, by decide⟩
      · exact ⟨3, rfl, by decide, by decide⟩
      · exact ⟨4, rfl, by decide, by decide⟩
      · exact ⟨6, rfl, by decide, by decide⟩
      · exact ⟨3, rfl, by decide, by decide⟩
    refine ⟨L8, _, r, _, rfl, rfl, SqL.of g82, at_of (j := r.toNat) (by omega) hn, ?_⟩
    refine ⟨(n : Int), rfl, .of_le (by omega) (by omega) (by omega) (by omega), fun R hR => ?_⟩
    rw [rgV_newL]
    have s3 := same_upd (o := .lst ((newL 0 n).map V.int)) hR
    have g3 : upd H2 R (.lst ((newL 0 n).map V.int)) R = some (.lst ((newL 0 n).map V.int)) := upd_same
    have RS := free_ne m2.ok hR
    have m3 := (Mv.refl m2.ok).then s3
    generalize upd H2 R (.lst ((newL 0 n).map V.int)) = H3 at g3 s3 m3 ⊢
    refine ⟨S, R, n, rfl, m3.ok, SqL.of (by rw [hide_ne RS]; exact g3), n2, n6, fun t N R' F row xs H4 m4 ht nm NS fam lF lr => ?_⟩
    have m14 := ((m1.trans m2).trans m3).trans m4
    have ht0 := seqT (hide_same S H4) ht
    refine ⟨_, rfl, t, _, 1, _, rfl, rfl, ht0, rfl, ?_⟩
    refine ⟨_, rfl, S, 16, rfl, m4.ok, by decide, fun way H5 w0 w1 m5 => ?_⟩
    have m15 := m14.trans m5
    have nm5 := nm.mv NS m5
    dsimp only [gName, tSeq, tAsg, tRet]
    refine use_nx (α := Addr × List Int) (M := fun a σ' H' => ∃ v7 : Option V, σ' = [some (.ref S), some (.int 1000000000), some (.ref t), some (.ref a.1), some (.int way), none, none, v7, none, none, none] ∧ Mv S S H5 H' ∧ SqL K H' a.1 (a.2.map V.int) ∧ Fam F a.2 ∧ a.2.length ≤ 10) (fun a σ' H6 ⟨v7, e, m6, ha, fam6, la⟩ => ?_) (fun nx => ?_)
    rotate_left
    · refine ⟨_, rfl, rfl, _, rfl, ?_⟩
      show if decide (V.int way = V.int 11) = true then _ else _
      by_cases c : way = 11
      rotate_left
      · rw [decide_eq_false (fun z => c (by injection z))]
        exact iteF (nx (R', row) _ _ ⟨_, rfl, Mv.refl m5.ok, nm5.show.2, fam, by show row.length ≤ 10; omega⟩)
      · rw [decide_eq_true (congrArg V.int c)]
        refine iteT ?_
        refine ⟨_, rfl, _, rfl, R', _, rfl, .inl nm5.show.2, _, _, rfl, rfl, S, _, rfl, m5.ok, by rw [List.length_map]; omega, fun pl H6 p0 p1 m6 => ?_⟩
        rw [List.length_map] at p1
        have nm6 := nm5.mv NS m6
        have hR6 := nm6.show.2
        obtain ⟨p, ep⟩ : ∃ p : Nat, pl = p := ⟨pl.toNat, by omega⟩
        subst ep
        refine ⟨_, rfl, _, rfl, _, rfl, R', _, rfl, hR6, fun q1 hq1 => ?_⟩
        have t1 := same_upd (o := .lst (cutV (row.map V.int) none (some (p : Int)))) hq1
        have g1 : upd H6 q1 (.lst (cutV (row.map V.int) none (some (p : Int)))) q1 = some (.lst ((row.take p).map V.int)) := by
          rw [upd_same, cut_take (by omega) (by rw [List.length_map]; omega), List.map_take]
          rfl
        generalize upd H6 q1 (.lst (cutV (row.map V.int) none (some (p : Int)))) = H7 at t1 g1 ⊢
        refine ⟨_, rfl, R', _, rfl, .inl (t1.seq hR6), (by show 1 ≤ sizeLine; decide), fun q2 hq2 => ?_⟩
        rw [List.length_map]
        have t2 := same_upd (o := .lst [V.int ((row.length : Nat) : Int)]) hq2
        have g2 : upd H7 q2 (.lst [V.int ((row.length : Nat) : Int)]) q2 = some (.lst [V.int ((row.length : Nat) : Int)]) := upd_same
        generalize upd H7 q2 (.lst [V.int ((row.length : Nat) : Int)]) = H8 at t2 g2 ⊢
        refine ⟨q1, q2, _, _, rfl, rfl, SqL.of (t2 _ _ g1), SqL.of g2, (by rw [List.length_map, List.length_take]; show _ + 1 ≤ 2000; omega), fun q3 hq3 => ?_⟩
        have t3 := same_upd (o := .lst ((row.take p).map V.int ++ [V.int ((row.length : Nat) : Int)])) hq3
        have g3' : upd H8 q3 (.lst ((row.take p).map V.int ++ [V.int ((row.length : Nat) : Int)])) q3 = some (.lst ((row.take p).map V.int ++ [V.int ((row.length : Nat) : Int)])) := upd_same
        generalize upd H8 q3 (.lst ((row.take p).map V.int ++ [V.int ((row.length : Nat) : Int)])) = H9 at t3 g3' ⊢
        have t25 := (t1.trans t2).trans t3
        refine ⟨_, rfl, _, rfl, _, rfl, R', _, rfl, t25.seq hR6, fun q4 hq4 => ?_⟩
        have t4 := same_upd (o := .lst (cutV (row.map V.int) (some (p : Int)) none)) hq4
        have g4 : upd H9 q4 (.lst (cutV (row.map V.int) (some (p : Int)) none)) q4 = some (.lst ((row.drop p).map V.int)) := by
          rw [upd_same, cut_drop (by omega) (by rw [List.length_map]; omega), List.map_drop]
          rfl
        generalize upd H9 q4 (.lst (cutV (row.map V.int) (some (p : Int)) none)) = H10 at t4 g4 ⊢
        refine ⟨q3, q4, _, _, rfl, rfl, SqL.of (t4 _ _ g3'), SqL.of g4, (by rw [List.length_append, List.length_map, List.length_map, List.length_take, List.length_drop]; show _ + 1 + _ ≤ 2000; omega), fun q5 hq5 => ?_⟩
        have t5 := same_upd (o := .lst ((row.take p).map V.int ++ [V.int ((row.length : Nat) : Int)] ++ (row.drop p).map V.int)) hq5
        have hh : Hung [] row 1 (row.take p ++ [(row.length : Int)] ++ row.drop p) := (Hung.zero (seam := []) fam).next (fun z hz => by cases hz) (.inl rfl)
        refine nx (q5, row.take p ++ [(row.length : Int)] ++ row.drop p) _ _ ⟨_, rfl, m6.then ((t25.trans t4).trans t5), SqL.of ?_, fam_more fam hh, ?_⟩
        · rw [upd_same, List.map_append, List.map_append]
          rfl
        · have := hh.len
          show (row.take p ++ [(row.length : Int)] ++ row.drop p).length ≤ 10
          omega
    · subst e
      obtain ⟨R6, row6⟩ := a
      have ha : SqL K H6 R6 (row6.map V.int) := ha
      have fam6 : Fam F row6 := fam6
      have la : row6.length ≤ 10 := la
      have nm6 := nm5.mv NS m6
      have lxs : xs.length = F.length := by
        have := nm6.rx.length
        rwa [List.length_map] at this
      refine ⟨(by show 0 ≤ sizeLine; decide), fun D hD => ?_⟩
      have m16 := m15.trans m6
      have ht6 := seqT (hide_same S H6) (seqT (m5.trans m6).same ht)
      have hN6 := SqL.of (K := K) nm6.n
      have rx6 : RpAll K H6 xs (F.map dLst) := nm6.show.1
      have sD := same_upd (o := .lst []) hD
      refine ⟨_, rfl, t, _, 0, _, rfl, rfl, seqT sD ht6, rfl, ?_⟩
      refine ⟨N, rfl, ⟨_, sD.seq hN6⟩, for_list (K := K) (a := N) (xs := xs) (fun i σ H7 => ∃ (ys : List V) (v6 : Option V), σ = [some (.ref S), some (.int 1000000000), some (.ref t), some (.ref R6), some (.int way), some (.ref D), v6, v7, none, none, none] ∧ Fill H6 D H7 ys ∧ RpAll K H7 ys (((F.take i).map (posL row6)).map dTup)) ⟨[], _, rfl, Fill.start hD, .nil⟩ (fun i σ H7 _ ⟨_, _, _, fl, _⟩ => fl.1.seq hN6) (fun i x σ H7 hx ⟨ys, v6, e, fl, ry⟩ => ?_) (fun σ H7 ⟨ys, v6, e, fl, ry⟩ => ?_)⟩
      · subst e
        obtain ⟨r, c, hr2, rfl, hc⟩ := rx6.rowL hx
        have hrF := List.mem_of_getElem? hr2
        have lr6 := (fam6.two r hrF).2
        have s7 : Same H6 H7 := fl.1
        refine ⟨_, rfl, .inl ⟨rfl, _, SqL.of fl.2⟩, ?_⟩
        refine ⟨_, rfl, c, rfl, ⟨_, s7.seq hc.1⟩, fun D2 hD2 => ?_⟩
        refine lcL (K := K) (xs := r.map V.int) (fun _ => true) (fun j => .int ((row6.idxOf (r.getD j 0) : Nat) : Int)) hD2 (s7.seq hc.1) (by rw [List.length_map]; omega) (fun _ _ _ => rfl) (fun j z H8 hj s8 Q1 Q2 k1 k2 => ?_) (fun zs H8 s8 hz8 rz => ?_)
        · obtain ⟨y, hy, rfl⟩ := intAt hj
          have ey : r.getD j 0 = y := by rw [List.getD_eq_getElem?_getD, hy]; rfl
          rw [ey] at k1
          have hR8 := (s7.trans s8).seq ha
          refine ⟨rfl, _, rfl, .inl ⟨rfl, _, hR8⟩, _, rfl, ?_⟩
          dsimp only [tNil]
          exact index_use hR8 (fam6.inn r hrF y (List.mem_of_getElem? hy)) (k1 rfl _ _ (Same.refl _) (.int _))
        · rw [filter_true, List.length_map, map_range (fun y : Int => PyData.int ((row6.idxOf y : Nat) : Int)) 0 r] at rz
          have e8 : r.map (fun y : Int => PyData.int ((row6.idxOf y : Nat) : Int)) = (r.map fun y : Int => ((row6.idxOf y : Nat) : Int)).map PyData.int := by rw [List.map_map]; rfl
          rw [e8] at rz
          have ez := RpAll.ofInts rz
          subst ez
          refine ⟨D2, _, rfl, SqL.of hz8, fun ns' q pm pw hq => ?_⟩
          have en2 : ns' = posL row6 r := srt_eq pm pw
          subst en2
          dsimp only [tNil]
          have sq := same_upd (o := .lst ((posL row6 r).map V.int)) hq
          refine tupL_use (SqL.of upd_same) fun p H9 s9 hp => ?_
          have s79 := (s8.trans sq).trans s9
          have tp : TupI K H9 p (posL row6 r) := ⟨hp, by rw [posL_len]; omega⟩
          have lys := ry.length
          rw [List.length_map, List.length_map, List.length_take] at lys
          refine ⟨D, _, _, rfl, rfl, fl.at s79, Nat.lt_of_lt_of_le (by omega : ys.length < 1000) (by decide), ?_⟩
          refine ⟨ys ++ [.ref p], _, rfl, fl.push hD s79, ?_⟩
          rw [List.take_succ, hr2]
          show RpAll K _ _ (((F.take i ++ [r]).map (posL row6)).map dTup)
          rw [List.map_append, List.map_append]
          refine RpAll.upd (fl.at s79) ?_ ((ry.same s79).app (.one tp.rp))
          have := noLs_rows ((F.take i).map (posL row6) ++ [posL row6 r])
          rw [List.map_append] at this
          exact this
      · subst e
        rw [lxs, List.take_length] at ry
        have hW := whole_fam fam6 lF
        have hB : RowsW row6.length (F.map (posL row6)) (F.map (posL row6)) 3 := ⟨tieEq_refl _, hW.inn, hW.len, by intro z; exact fam6.ne (List.map_eq_nil_iff.mp z), hW.few⟩
        obtain ⟨B, eB⟩ : ∃ B, B = F.map (posL row6) := ⟨_, rfl⟩
        rw [← eB] at hW hB ry
        dsimp only [gName, tSeq, tAsg, tRet]
        -- a list told twice
        refine use_nx (α := List (List Int) × List V) (M := fun a σ' H' => σ' = [some (.ref S), some (.int 1000000000), some (.ref t), some (.ref R6), some (.int way), some (.ref D), v6, v7, none, none, none] ∧ Fill H6 D H' a.2 ∧ RpAll K H' a.2 (a.1.map dTup) ∧ RowsW row6.length a.1 B 4) (fun a σ' H8 ⟨e, fl8, ry8, hw8⟩ => ?_) (fun nx => ?_)
        rotate_left
        · refine ⟨_, rfl, rfl, _, rfl, ?_⟩
          show if decide (V.int way = V.int 12) = true then _ else _
          by_cases c : way = 12
          rotate_left
          · rw [decide_eq_false (fun z => c (by injection z))]
            exact iteF (nx (B, ys) _ _ ⟨rfl, fl, ry, hB.mono (by decide)⟩)
          · rw [decide_eq_true (congrArg V.int c)]
            have lys := ry.length
            rw [List.length_map] at lys
            have lB : 0 < B.length := List.length_pos_iff.mpr hB.ne
            obtain ⟨y, hy⟩ : ∃ y, ys[0]? = some y := ⟨_, List.getElem?_eq_getElem (by omega)⟩
            obtain ⟨r, c0, hr0, rfl, tc⟩ := ry.row hy
            have hrB := List.mem_of_getElem? hr0
            refine iteT ⟨_, rfl, .inl ⟨rfl, _, SqL.of fl.2⟩, _, rfl, D, _, 0, _, rfl, rfl, SqL.of fl.2, at_of (j := 0) rfl hy, ?_⟩
            dsimp only [tNil]
            have lB3 := hB.few
            refine ⟨D, _, _, rfl, rfl, fl.2, Nat.lt_of_lt_of_le (by omega : ys.length < 1000) (by decide), ?_⟩
            refine nx (B ++ [r], ys ++ [.ref c0]) _ _ ⟨rfl, fl.push hD (Same.refl _), ?_, hB.add hrB (fun x hx => hx) (hB.len r hrB)⟩
            show RpAll K _ _ ((B ++ [r]).map dTup)
            rw [List.map_append]
            refine RpAll.upd fl.2 ?_ (ry.app (.one tc.rp))
            have := noLs_rows (B ++ [r])
            rw [List.map_append] at this
            exact this
        · subst e
          obtain ⟨rows8, ys8⟩ := a
          have fl8 : Fill H6 D H8 ys8 := fl8
          have ry8 : RpAll K H8 ys8 (rows8.map dTup) := ry8
          have hw8 : RowsW row6.length rows8 B 4 := hw8
          dsimp only [gName, tSeq, tAsg, tRet]
          -- one list inside another
          refine use_nx (α := List (List Int) × List V) (M := fun a σ' H' => σ' = [some (.ref S), some (.int 1000000000), some (.ref t), some (.ref R6), some (.int way), some (.ref D), v6, v7, none, none, none] ∧ Fill H6 D H' a.2 ∧ RpAll K H' a.2 (a.1.map dTup) ∧ RowsW row6.length a.1 B 5) (fun a σ' H9 ⟨e, fl9, ry9, hw9⟩ => ?_) (fun nx => ?_)
          rotate_left
          · refine ⟨_, rfl, rfl, _, rfl, ?_⟩
            show if decide (V.int way = V.int 13) = true then _ else _
            by_cases c : way = 13
            rotate_left
            · rw [decide_eq_false (fun z => c (by injection z))]
              exact iteF (nx (rows8, ys8) _ _ ⟨rfl, fl8, ry8, hw8.mono (by decide)⟩)
            · rw [decide_eq_true (congrArg V.int c)]
              have lys := ry8.length
              rw [List.length_map] at lys
              have lB : 0 < rows8.length := List.length_pos_iff.mpr hw8.ne
              obtain ⟨y, hy⟩ : ∃ y, ys8[ys8.length - 1]? = some y := ⟨_, List.getElem?_eq_getElem (by omega)⟩
              obtain ⟨r, c0, hr0, rfl, tc⟩ := ry8.row hy
              have hrB := List.mem_of_getElem? hr0
              have lr := hw8.len r hrB
              obtain ⟨u, hu⟩ : ∃ u, r[0]? = some u := ⟨_, List.getElem?_eq_getElem (by omega)⟩
              obtain ⟨z, hz⟩ : ∃ z, r[r.length - 1]? = some z := ⟨_, List.getElem?_eq_getElem (by omega)⟩
              refine iteT ⟨_, rfl, .inl ⟨rfl, _, SqL.of fl8.2⟩, _, rfl, 1, rfl, D, _, _, _, rfl, rfl, SqL.of fl8.2, at_lastV hy, c0, _, 0, _, rfl, rfl, tc.1, at_of (j := 0) rfl (by rw [List.getElem?_map, hu]; rfl), _, rfl, 1, rfl, D, _, _, _, rfl, rfl, SqL.of fl8.2, at_lastV hy, 1, rfl, c0, _, _, _, rfl, rfl, tc.1, at_lastI hz, (by show 2 ≤ sizeLine; decide), fun q hq => ?_⟩
              dsimp only [tNil]
              have lB3 := hw8.few
              have sq := same_upd (o := .tup [V.int u, .int z]) hq
              have rq : Rp K (upd H8 q (.tup [V.int u, .int z])) (.ref q) (dTup [u, z]) := TupI.rp ⟨SqT.of upd_same, by show 2 ≤ 1000; decide⟩
              refine ⟨D, _, _, rfl, rfl, fl8.at sq, Nat.lt_of_lt_of_le (by omega : ys8.length < 1000) (by decide), ?_⟩
              refine nx (rows8 ++ [[u, z]], ys8 ++ [.ref q]) _ _ ⟨rfl, fl8.push hD sq, ?_, hw8.add hrB (fun x hx => ?_) ⟨Nat.le_refl 2, by show 2 ≤ 6; decide⟩⟩
              · show RpAll K _ _ ((rows8 ++ [[u, z]]).map dTup)
                rw [List.map_append]
                refine RpAll.upd (fl8.at sq) ?_ ((ry8.same sq).app (.one rq))
                have := noLs_rows (rows8 ++ [[u, z]])
                rw [List.map_append] at this
                exact this
              · rcases List.mem_cons.mp hx with rfl | hx
                · exact List.mem_of_getElem? hu
                · rw [List.mem_singleton] at hx
                  exact hx ▸ List.mem_of_getElem? hz
          · subst e
            obtain ⟨rows9, ys9⟩ := a
            have fl9 : Fill H6 D H9 ys9 := fl9
            have ry9 : RpAll K H9 ys9 (rows9.map dTup) := ry9
            have hw9 : RowsW row6.length rows9 B 5 := hw9
            dsimp only [gName, tSeq, tAsg, tRet]
            have lys9 := ry9.length
            rw [List.length_map] at lys9
            have lB9 : 0 < rows9.length := List.length_pos_iff.mpr hw9.ne
            have lf9 := hw9.few
            obtain ⟨y, hy⟩ : ∃ y, ys9[0]? = some y := ⟨_, List.getElem?_eq_getElem (by omega)⟩
            obtain ⟨l, c0, hl0, rfl, tc⟩ := ry9.row hy
            refine use_nx (α := Addr × List (List Int) × List V) (M := fun a σ' H' => ∃ v8 v9 : Option V, σ' = [some (.ref S), some (.int 1000000000), some (.ref t), some (.ref R6), some (.int way), some (.ref a.1), v6, v7, v8, v9, none] ∧ Same H9 H' ∧ SqL K H' a.1 a.2.2 ∧ RpAll K H' a.2.2 (a.2.1.map dTup) ∧ RowsV row6.length a.2.1 B) (fun a σ' H10 ⟨v8, v9, e, s10, ha10, ry10, hw10⟩ => ?_) (fun nx => ?_)
            rotate_left
            · refine ⟨_, rfl, rfl, _, rfl, ?_⟩
              show if decide (V.int way = V.int 14) = true then _ else _
              by_cases c : way = 14
              rotate_left
              · rw [decide_eq_false (fun z => c (by injection z))]
                exact iteF (iteF (nx (D, rows9, ys9) _ _ ⟨none, none, rfl, Same.refl _, SqL.of fl9.2, ry9, hw9.v⟩))
              · rw [decide_eq_true (congrArg V.int c)]
                refine iteT ⟨_, rfl, D, _, 0, _, rfl, rfl, SqL.of fl9.2, at_of (j := 0) rfl hy, c0, _, rfl, .inr tc.1, _, _, rfl, rfl, _, rfl, ?_⟩
                rw [List.length_map]
                by_cases c4 : ((l.length : Nat) : Int) ≤ 4
                rotate_left
                · rw [decide_eq_false c4]
                  exact iteF (nx (D, rows9, ys9) _ _ ⟨none, none, rfl, Same.refl _, SqL.of fl9.2, ry9, hw9.v⟩)
                · rw [decide_eq_true c4]
                  refine iteT ⟨(by show 0 ≤ sizeLine; decide), fun PA hPA => ?_⟩
                  have sP := same_upd (o := .lst []) hPA
                  have l4 : l.length ≤ 4 := by omega
                  have ptl : ∀ i, (pairsTo l i).length ≤ 16 := fun i => by
                    have h1 := pairs_len l (l.take i)
                    have h2 : (l.take i).length ≤ 4 := by rw [List.length_take]; omega
                    have h3 : (l.take i).length * l.length ≤ 4 * 4 := Nat.mul_le_mul h2 l4
                    unfold pairsTo
                    omega
                  refine ⟨_, rfl, D, _, 0, _, rfl, rfl, sP.seq (SqL.of fl9.2), at_of (j := 0) rfl hy, c0, rfl, ⟨_, seqT sP tc.1⟩, for_tup (K := K) (a := c0) (xs := l.map V.int) (fun i σ H10 => ∃ (Pq : Addr) (ps : List V) (v9 : Option V), σ = [some (.ref S), some (.int 1000000000), some (.ref t), some (.ref R6), some (.int way), some (.ref D), v6, v7, some (.ref Pq), v9, none] ∧ Same H9 H10 ∧ SqL K H10 Pq ps ∧ RpAll K H10 ps ((pairsTo l i).map dTup)) ⟨PA, [], _, rfl, sP, SqL.of upd_same, .nil⟩ (fun i σ H10 _ ⟨_, _, _, _, s10, _⟩ => seqT s10 tc.1) (fun i x σ H10 hx ⟨Pq, ps, v9, e, s10, hP, rp⟩ => ?_) (fun σ H10 ⟨Pq, ps, v9, e, s10, hP, rp⟩ => ?_)⟩
                  · subst e
                    obtain ⟨a, hxa, rfl⟩ := intAt hx
                    refine ⟨_, rfl, _, rfl, D, _, 0, _, rfl, rfl, s10.seq (SqL.of fl9.2), at_of (j := 0) rfl hy, c0, rfl, ⟨_, seqT s10 tc.1⟩, fun D3 hD3 => ?_⟩
                    refine lcT (K := K) (xs := l.map V.int) (fun j => decide (a < l.getD j 0)) (fun j => dTup [a, l.getD j 0]) hD3 (seqT s10 tc.1) (by rw [List.length_map]; omega) (fun _ _ _ => noL_dTup _) (fun j z H11 hj s11 Q1 Q2 k1 k2 => ?_) (fun zs H11 s11 hz11 rz => ?_)
                    · obtain ⟨b, hb, rfl⟩ := intAt hj
                      have eb : l.getD j 0 = b := by rw [List.getD_eq_getElem?_getD, hb]; rfl
                      rw [eb] at k1 k2
                      refine ⟨rfl, _, rfl, _, rfl, _, _, rfl, rfl, _, rfl, ?_⟩
                      show if decide (a < b) = true then _ else _
                      cases cc : decide (a < b) with
                      | false => exact iteF (k2 cc _ (Same.refl _))
                      | true =>
                        refine iteT ⟨_, rfl, _, rfl, (by show 2 ≤ sizeLine; decide), fun q hq => ?_⟩
                        have sq := same_upd (o := .tup [V.int a, .int b]) hq
                        exact k1 cc _ _ sq (TupI.rp ⟨SqT.of upd_same, by show 2 ≤ 1000; decide⟩)
                    · rw [List.length_map, filter_map_range (fun y : Int => decide (a < y)) (fun y : Int => dTup [a, y]) 0 l] at rz
                      have lz := rz.length
                      rw [List.length_map] at lz
                      have lf := List.length_filter_le (fun y : Int => decide (a < y)) l
                      have lps := rp.length
                      rw [List.length_map] at lps
                      have lpi := ptl i
                      have hP11 := s11.seq hP
                      refine ⟨Pq, D3, _, _, rfl, rfl, hP11, SqL.of hz11, by omega, fun q hq => ?_⟩
                      have sq := same_upd (o := .lst (ps ++ zs)) hq
                      refine ⟨q, ps ++ zs, _, rfl, (s10.trans s11).trans sq, SqL.of upd_same, ?_⟩
                      have eP : pairsTo l (i + 1) = pairsTo l i ++ (l.filter fun y => decide (a < y)).map fun y => [a, y] := by
                        unfold pairsTo
                        rw [List.take_succ, hxa, List.flatMap_append]
                        congr 1
                        exact List.flatMap_singleton _ _
                      rw [eP, List.map_append, List.map_map]
                      exact (rp.same (s11.trans sq)).app (rz.same sq)
                  · subst e
                    rw [List.length_map, pairsTo_all] at rp
                    have lps := rp.length
                    rw [List.length_map] at lps
                    have lpi : (pairsL l).length ≤ 16 := pairsTo_all l ▸ ptl l.length
                    refine ⟨_, rfl, _, rfl, _, rfl, D, _, rfl, s10.seq (SqL.of fl9.2), fun q hq => ?_⟩
                    have e1 : cutV ys9 (some 1) none = ys9.drop 1 := by
                      rw [cut_drop (by decide) (by omega)]
                      rfl
                    rw [e1]
                    have sq := same_upd (o := .lst (ys9.drop 1)) hq
                    refine ⟨Pq, q, _, _, rfl, rfl, sq.seq hP, SqL.of upd_same, by rw [List.length_drop]; omega, fun q2 hq2 => ?_⟩
                    have sq2 := same_upd (o := .lst (ps ++ ys9.drop 1)) hq2
                    have s12 := (s10.trans sq).trans sq2
                    refine nx (q2, pairsL l ++ rows9.drop 1, ps ++ ys9.drop 1) _ _ ⟨_, _, rfl, s12, SqL.of upd_same, ?_, hw9.pairs hl0 l4⟩
                    rw [List.map_append, List.map_drop]
                    exact (rp.same (sq.trans sq2)).app ((RpAll.drop 1 ry9).same s12)
            · subst e
              obtain ⟨D10, rows10, ys10⟩ := a
              have ha10 : SqL K H10 D10 ys10 := ha10
              have ry10 : RpAll K H10 ys10 (rows10.map dTup) := ry10
              have hw10 : RowsV row6.length rows10 B := hw10
              have m610 : Mv S S H6 H10 := (Mv.refl m6.ok).then (fl9.1.trans s10)
              have m110 := m16.trans m610
              have hR10 := (fl9.1.trans s10).seq ha
              refine ⟨_, rfl, rfl, _, rfl, ?_⟩
              show if decide (V.int way = V.int 15) = true then _ else _
              by_cases c : way = 15
              · rw [decide_eq_true (congrArg V.int c)]
                have rp0 : 0 < row6.length := by
                  obtain ⟨r, hr⟩ := List.exists_mem_of_ne_nil F fam6.ne
                  have l2 := (fam6.two r hr).1
                  exact List.length_pos_of_mem (fam6.inn r hr _ (List.getElem_mem (by omega : 0 < r.length)))
                refine iteT ⟨_, rfl, _, rfl, R6, _, rfl, .inl hR10, S, _, rfl, m610.ok, by rw [List.length_map]; omega, fun r H11 r0 r1 m11 => ⟨_, _, rfl, rfl, ?_⟩⟩
                rw [List.length_map] at r1
                refine ⟨(by show 0 ≤ sizeLine; decide), fun q hq => ⟨(by show 2 ≤ sizeLine; decide), fun z hz => ?_⟩⟩
                have sq := same_upd (o := .tup []) hq
                have sz := same_upd (o := .tup [V.int (1 + r), .ref q]) hz
                have mE := m11.then (sq.trans sz)
                have rq : Rp K (upd H11 q (.tup [])) (.ref q) (.tuple (([] : List (List Int)).map dTup)) := .tup (SqT.of upd_same) (by show 0 ≤ 1000; decide) .nil
                refine k _ (1 + r) [] [] _ (m110.trans mE) (rp_hide mE.ok (noL_bookW _ _) (.tup (SqT.of upd_same) (by show 2 ≤ 1000; decide) (.two (.int _) (rq.same sz)))) ⟨by omega, by omega, fun z hz => (by cases hz), ⟨fun z hz => (by cases hz), fun z hz => (by cases hz), fun z hz => (by cases hz), by decide, fun z hz => (by cases hz)⟩, tieEq_refl _, by decide, fun z hz => (by cases hz), by decide⟩
              · rw [decide_eq_false (fun z => c (by injection z))]
                refine iteF ⟨_, rfl, R6, _, rfl, .inl hR10, ?_⟩
                rw [List.length_map]
                refine ⟨_, rfl, ?_⟩
                dsimp only [tNil]
                refine tupL_use ha10 fun p H11 s11 hp => ⟨(by show 2 ≤ sizeLine; decide), fun z hz => ?_⟩
                have sz := same_upd (o := .tup [V.int ((row6.length : Nat) : Int), .ref p]) hz
                have mE := (Mv.refl m610.ok).then (s11.trans sz)
                have lys := ry10.length
                rw [List.length_map] at lys
                have lf := hw10.few
                have rp0 : 0 < row6.length := by
                  obtain ⟨r, hr⟩ := List.exists_mem_of_ne_nil F fam6.ne
                  have l2 := (fam6.two r hr).1
                  exact List.length_pos_of_mem (fam6.inn r hr _ (List.getElem_mem (by omega : 0 < r.length)))
                refine k _ ((row6.length : Nat) : Int) rows10 B _ (m110.trans mE) (rp_hide mE.ok (noL_bookW _ _) (.tup (SqT.of upd_same) (by show 2 ≤ 1000; decide) (.two (.int _) (.tup (seqT sz hp) (by omega) ((ry10.same s11).same sz))))) ⟨by omega, by omega, hw10.inn, hW, hw10.te, hw10.few, hw10.len, hw10.prs⟩
end
end LK
/-! set of a list of tuples of ints: the list as long as it likes, below 63 different ones in it -/
namespace LK
open PySem PySem.Spec PyProof.Rows L2
/-- what has come in of the first i tuples -/
structure InSet (ks : List (Addr × List Int)) (i : Nat) (L : List (Addr × List Int)) : Prop where
  from_ : ∀ q ∈ L, q ∈ ks
  full : ∀ j, j < i → ∀ q, ks[j]? = some q → q.2 ∈ L.map (·.2)
theorem InSet.none_ (ks : List (Addr × List Int)) : InSet ks 0 [] := ⟨fun q h => (by cases h), fun j h => absurd h (Nat.not_lt_zero j)⟩
theorem InSet.stays {ks L : List (Addr × List Int)} {i : Nat} {q : Addr × List Int} (g : InSet ks i L) (at_ : ks[i]? = some q) (m : q.2 ∈ L.map (·.2)) : InSet ks (i + 1) L := by
  refine ⟨g.from_, fun j hj r hr => ?_⟩
  by_cases e : j = i
  · subst e
    rw [at_] at hr
    cases hr
    exact m
  · exact g.full j (by omega) r hr
theorem InSet.grows {ks L L' : List (Addr × List Int)} {i : Nat} {q : Addr × List Int} (g : InSet ks i L) (at_ : ks[i]? = some q) (p : L'.Perm (q :: L)) : InSet ks (i + 1) L' := by
  have pm := p.map (·.2)
  refine ⟨fun r hr => ?_, fun j hj r hr => ?_⟩
  · rcases List.mem_cons.mp (p.mem_iff.mp hr) with z | z
    · exact z ▸ List.mem_of_getElem? at_
    · exact g.from_ r z
  · rw [pm.mem_iff, List.map_cons]
    by_cases e : j = i
    · subst e
      rw [at_] at hr
      cases hr
      exact List.mem_cons_self
    · exact List.mem_cons_of_mem _ (g.full j (by omega) r hr)
/-- few different tuples -/
def Few (ks : List (Addr × List Int)) : Prop := ∀ L : List (Addr × List Int), (∀ q ∈ L, q ∈ ks) → (L.map (·.2)).Nodup → L.length < 63
section
variable {P : Program} {w : World} {A : Around} {E : Value → Shared → Prop} {s : Shared}
/-- what is known at the loop's head -/
structure AtHead (P : Program) (w : World) (ks : List (Addr × List Int)) (h0 : Heap) (S : Addr) (i : Nat) (s : Shared) (L : List (Addr × List Int)) : Prop where
  old : ∀ b o, h0.get? b = some o → s.heap.get? b = some o
  set : ∃ es ep t, SetTR P w s.heap S L es ep t
  in_ : InSet ks i L
theorem update_loop {I : Addr} {fp wr : List Addr} {G : Array GenState → Array GenState → Prop} {Pv : Nat → Value → Prop} {St : Nat → Shared → Prop} {R : Result → Shared → Prop} {ks : List (Addr × List Int)}
    {n : Nat} (hn : n = ks.length) (W : WalksS P w A.in1 I fp wr G n Pv St) (S : Addr) (away : S ∉ fp) (few : Few ks) (val : ∀ i v, Pv i v → ∃ q, ks[i]? = some q ∧ v = .ref q.1)
    (h0 : Heap) (tup : ∀ q ∈ ks, IsT P w h0 q.2 q.1) (new : h0.get? S = none) (fresh : ∀ b ∈ wr, h0.get? b = none) (room : A.in1.units < cLine) :
    ∀ (left i : Nat) (s : Shared) (L : List (Addr × List Int)), ks.length = i + left → St i s → AtHead P w ks h0 S i s L →
      (∀ s' L', Moved (S :: wr) G s s' → AtHead P w ks h0 S ks.length s' L' → R (.ok (.ret .none)) s') →
      codeAny (model P w) A (.builtin "set.update.loop" ⟨[.ref S, .ref I], []⟩) R s := by
  subst hn
  have away2 : S ∉ wr := fun z => away (W.sub _ z)
  have wider : ∀ b ∈ wr, b ∈ S :: wr := fun b hb => List.mem_cons_of_mem _ hb
  have after : ∀ {sA sB : Shared} {i : Nat} {L : List (Addr × List Int)}, Moved wr G sA sB → AtHead P w ks h0 S i sA L → AtHead P w ks h0 S i sB L := fun {sA sB i L} m a => by
    have old : ∀ b o, h0.get? b = some o → sB.heap.get? b = some o := fun b o e => m.heap b o (fun hb => by rw [fresh b hb] at e; cases e) (a.old b o e)
    obtain ⟨es, ep, t, r⟩ := a.set
    exact ⟨old, ⟨es, ep, t, r.keep (fun o e => m.heap S o away2 e) fun q hq => isT_keep (tup q (a.in_.from_ q hq)) old⟩, a.in_⟩
  intro left
  induction left with
  | zero =>
    intro i s L hn st a done
    have hi : ks.length = i := hn
    subst hi
    refine codeAny_builtin F.entry_set_update_loop ?_
    rw [Around.under_plainId F.plain_set_update_loop _]
    show wpAny _ A.in1 (pyNext (.ref I) >>= _) _ _ s
    refine wpAny_bind (W.done s _ _ st fun sB m => ?_)
    exact wpAny_pure (done sB L (m.mono wider) (after m a))
  | succ left ih =>
    intro i s L hn st a done
    refine codeAny_builtin F.entry_set_update_loop ?_
    rw [Around.under_plainId F.plain_set_update_loop _]
    show wpAny _ A.in1 (pyNext (.ref I) >>= _) _ _ s
    refine wpAny_bind (W.item i s _ _ (by omega) st fun v sB hP stB m => ?_)
    obtain ⟨q, hq, rfl⟩ := val i v hP
    have b := after m a
    obtain ⟨es, ep, t, r⟩ := b.set
    have isq : IsT P w sB.heap q.2 q.1 := isT_keep (tup q (List.mem_of_getElem? hq)) b.old
    have lt := few L b.in_.from_ r.nd
    show wpAny _ A.in1 (holding [Value.ref q.1] (setAdd S (.ref q.1)) >>= _) _ _ sB
    refine wpAny_bind (wpAny_holding ?_)
    unfold setAdd
    refine wpAny_holding (wpAny_bind (wpAny_pyHash_tuple room isq ?_))
    refine add_at (s := { sB with toks := sB.toks + (q.2.length + 1) }) r isq room (by omega) fun _ hC LC esC epC tC same rC kept came => ?_
    have inC : InSet ks (i + 1) LC := (Classical.em (q.2 ∈ L.map (·.2))).elim (fun c => by rw [kept c]; exact b.in_.stays hq c) fun c => b.in_.grows hq (came c)
    have oldC : ∀ b o, h0.get? b = some o → hC.get? b = some o := fun c o e => (same.2 c fun z => by rw [z, new] at e; cases e).trans (b.old c o e)
    refine wpAny_pure ⟨plainId_quiet F.plain_set_update_loop _, ih (i + 1) _ LC (by omega) (W.frame _ sB _ _ stB (Nat.le_add_right _ _) fun c hc o e => ?_) ⟨oldC, ⟨esC, epC, tC, rC⟩, inC⟩ fun sD LD mD aD => ?_⟩
    · exact (same.2 c fun z => away (z ▸ hc)).trans e
    · exact done sD LD (Moved.trans W.gtrans ((m.mono wider).then_heap (Nat.le_add_right _ _) fun c o hc e => (same.2 c fun z => hc (z ▸ List.mem_cons_self)).trans e) mD) aD
end
end LK
namespace LK
open PySem PySem.Spec PyProof.Rows L2
/-- a set object with nothing in it, as a call of set makes it -/
def bareSet (w : World) : Obj := { cls := .type "set", dict := none, data := .set #[] 0 (.fresh 0 0 (!w.params.followText "set-order")) }
section
variable {P : Program} {w : World} {A : Around} {E : Value → Shared → Prop} {s : Shared}
theorem call_set_few {l : Addr} {its : Array Value} {ks : List (Addr × List Int)} {Q : Value → Shared → Prop} (cool : A.handled = none) (hl : s.heap.IsList l its) (are : its.toList = ks.map fun q => Value.ref q.1)
    (tup : ∀ q ∈ ks, IsT P w s.heap q.2 q.1) (few : Few ks) (room : A.units + 3 < cLine)
    (k : ∀ (h' : Heap) (tk : Nat) L, AtHead P w ks s.heap s.heap.objs.size ks.length { s with heap := h', toks := tk } L → Q (.ref s.heap.objs.size) { s with heap := h', toks := tk }) :
    wpAny (model P w) A (call (.type "set") [.ref l]) Q E s := by
  have size : its.size = ks.length := by
    have z := congrArg List.length are
    rwa [Array.length_toList, List.length_map] at z
  obtain ⟨c, tl, mro⟩ := F.called_set.mro
  have made := F.called_set.made
  have below := F.called_set.sub
  refine wpAny_call (codeAny_of_tree ?_)
  show wpAny _ _ (callAny (.type "set") _) _ _ _
  refine wpAny_pure ⟨Code.quiet_builtin _ (by decide +kernel), codeAny_builtin F.entry_type_call ?_⟩
  rw [Around.under_plain (weight_type_call_type "set" [.ref l] []) rfl]
  have f1 := F.called_set.notType
  have f2 := F.called_set.canCreate
  have f3 := F.typeCall_set_1 (.ref l)
  repeat (any_goals (first | assumption | wp_step))
  refine codeAny_mono (code_set_led1 (.ref l) (E := E) (Q₁ := fun o s1 => o = .ref s.heap.objs.size ∧ s1 = { s with heap := s.heap.push (bareSet w) }) ⟨rfl, rfl⟩) fun r s1 hr => ?_
  cases r with
  | error e => exact hr
  | ok fl =>
    cases fl with
    | ret o =>
      obtain ⟨rfl, rfl⟩ := hr
      have born : (s.heap.push (bareSet w)).get? s.heap.objs.size = some (bareSet w) := Heap.get?_push_size _ rfl
      have type : Shared.TypeIs { s with heap := s.heap.push (bareSet w) } (.ref s.heap.objs.size) "set" := ⟨_, born, rfl⟩
      have f4 := F.called_set.init.lookup
      have f5 := F.called_set.init.bind (.ref s.heap.objs.size)
      repeat (any_goals (first | assumption | wp_step))
      refine codeAny_mono (codeAny_call_builtin (R := wants (fun r s2 => r = .none ∧ ∃ h' tk L, s2 = { s with heap := h', toks := tk } ∧ AtHead P w ks s.heap s.heap.objs.size ks.length s2 L) E) F.called_set.init.plain F.entry_set_init (check_set_init_1 type ?_)) fun r2 s2 hr2 => ?_
      · obtain ⟨ol, hol, hcl, nl, hdl⟩ := hl
        obtain ⟨ocls, odict, odata, oslots⟩ := ol
        simp only at hcl hdl
        subst hcl hdl
        have hol2 : (s.heap.push (bareSet w)).get? l = some { cls := .type "list", dict := odict, data := .seq its nl, slots := oslots } := Heap.get?_push_of_some _ hol
        have g1 := F.sub_list_set
        have g2 := F.sub_list_frozenset
        have g3 : (Value.type "list" == Value.type "dict") = false := by decide
        have lst : (s.heap.push (bareSet w)).IsList l its := ⟨_, hol2, rfl, nl, rfl⟩
        unfold Builtin.«set.__init__» noKeywords Builtin.Frozenset.updateFrom
        generalize hPI : pyIter = PI
        wp_walk
        subst hPI
        refine wpAny_pyIter_list lst (wpAny_bind (wpAny_runValue ?_))
        have lt : l < s.heap.objs.size := Heap.lt_size hol
        have sz : (s.heap.push (bareSet w)).objs.size = s.heap.objs.size + 1 := Heap.size_push ..
        have cool3 : A.in1.in1.in1.handled = none := by simp [cool]
        have gone : ∀ b, s.heap.objs.size ≤ b → s.heap.get? b = none := fun b hb => by
          cases z : s.heap.get? b with
          | none => rfl
          | some o => exact absurd (Heap.lt_size z) (Nat.not_lt_of_le hb)
        have other : l ≠ (s.heap.push (bareSet w)).objs.size := by
          rw [sz]
          exact Nat.ne_of_lt (Nat.lt_succ_of_lt lt)
        have away : s.heap.objs.size ∉ [(s.heap.push (bareSet w)).objs.size, l] := fun z => by
          rw [sz] at z
          rcases List.mem_cons.mp z with e | e
          · exact absurd e (Nat.ne_of_lt (Nat.lt_succ_self _))
          · exact absurd (List.mem_singleton.mp e) (Nat.ne_of_gt lt)
        have vals : ∀ (i : Nat) (v : Value), its[i]? = some v → ∃ q, ks[i]? = some q ∧ v = .ref q.1 := fun i v e => by
          have z : its.toList[i]? = some v := by rw [Array.getElem?_toList]; exact e
          rw [are, List.getElem?_map, Option.map_eq_some_iff] at z
          obtain ⟨q, hq, hv⟩ := z
          exact ⟨q, hq, hv.symm⟩
        refine update_loop size ((Walks.list cool3 _ l other its).toS) s.heap.objs.size away few vals s.heap tup (gone _ (Nat.le_refl _)) (fun b hb => gone b (by
            rw [List.mem_singleton.mp hb, sz]
            exact Nat.le_succ _)) room ks.length 0 _ [] (by omega) ⟨⟨_, Heap.get?_push_size _ rfl, rfl, rfl⟩, lst.push _⟩
          ⟨fun b o e => Heap.get?_push_of_some _ (Heap.get?_push_of_some _ e), ⟨#[], 0, _, setTR_fresh (Heap.get?_push_of_some _ born)⟩, InSet.none_ ks⟩ fun s' L' m aL => ?_
        obtain ⟨h', g', d', t', o'⟩ := s'
        have eg : g' = s.gens := m.gens
        have ed : d' = s.drawn := m.drawn
        have eo : o' = s.os := m.os
        subst eg ed eo
        show wpAny _ _ _ _ _ _
        refine wpAny_pure ?_
        show wpAny _ _ (ret Value.none) _ _ _
        exact wpAny_pure ⟨rfl, h', t', L', rfl, aL⟩
      · cases r2 with
        | error e => exact hr2
        | ok fl2 =>
          cases fl2 with
          | ret r =>
            obtain ⟨rfl, h', tk, L, rfl, aL⟩ := hr2
            repeat (any_goals (first | assumption | wp_step))
            exact k _ _ L aL
          | _ => exact hr2.elim
    | _ => exact hr.elim
end
section
variable {X : Cx}
/-- set(xs): the tuples in it are those of the list -/
def rSetP (K : PySem.W.Frag) (P : Program) (w : World) : List V → Hp → VK → Prop := fun xs H Q => ∃ (l : Addr) (ks : List (Addr × List Int)), xs = [V.ref l] ∧ SqL K H l (ks.map fun q => V.ref q.1) ∧ (∀ q ∈ ks, SqT K H q.1 (q.2.map V.int)) ∧ Few ks ∧
  ∀ a L, H a = none → (∀ q ∈ L, q ∈ ks) → (∀ q ∈ ks, q.2 ∈ L.map (·.2)) → Q (.ref a) (upd H a (SetTO P w a L))
theorem setPT (K : PySem.W.Frag) (P : Program) (w : World) (hu : X.A.units + 65 < cLine) (hc : X.calm = true := by rfl) (hK : X.K = K := by rfl) (hP : X.prog = P := by rfl) (hw : X.w = w := by rfl) : CallR X (.type "set") (rSetP K P w) := by
  subst hK hP hw
  intro pins s σ H xs us Q I r h
  obtain ⟨l, ks, rfl, hl, hk, few, q⟩ := h
  rw [Vals.ref1 r]
  obtain ⟨its, rv, pl, hz⟩ := I.list hl
  refine call_set_few (P := X.prog) (w := X.w) (ks := ks) (I.ok.hd hc) pl.isList (by simpa using refs_of_vals rv) (fun p hp => I.isT (hk p hp)) few (by omega) fun h' tk L aL => ?_
  obtain ⟨es, ep, t, R⟩ := aL.set
  refine ⟨.ref s.heap.objs.size, upd H s.heap.objs.size (SetTO X.prog X.w s.heap.objs.size L), I.laid (t' := tk) aL.old (Nat.le_refl _) (setTO_new R.t0), rfl, q _ L (I.hok.fresh (Nat.le_refl _)) aL.in_.from_ fun p hp => ?_⟩
  obtain ⟨i, hi⟩ := List.getElem?_of_mem hp
  exact aL.in_.full i (List.getElem?_eq_some_iff.mp hi).1 p hi
theorem srtST (K : PySem.W.Frag) (P : Program) (w : World) (hc : X.calm = true := by rfl) (hK : X.K = K := by rfl) (hP : X.prog = P := by rfl) (hw : X.w = w := by rfl) : CallR X (.builtin "sorted") (rSortedT K P w) := by
  subst hK hP hw
  exact cr_sortedT hc
end
end LK
/-! tuple[::-1] -/
namespace LK
open PySem PySem.Spec PyProof.Rows L2 HT
section
variable {prog : Program} {w : World} {A : Around} {E : Value → Shared → Prop} {s : Shared}
theorem places_rev (n : Nat) : Builtin.Slice.slicePlaces ((n : Int) - 1) (-1) (-1) = n := by
  unfold Builtin.Slice.slicePlaces
  have h1 : ¬ ((-1 : Int) > 0) := by omega
  simp only [h1, if_false]
  by_cases h : (n : Int) - 1 > -1
  · simp only [h, if_true]
    have : ((n : Int) - 1 - -1 - 1) / (- -1) = (n : Int) - 1 := by
      rw [show (- -1 : Int) = 1 by decide, Int.ediv_one]
      omega
    omega
  · simp only [h, if_false]
    omega
theorem sliceApplied_rev {sl : Addr} {vs : Value} {n : Nat} {Q : Int × Int × Nat → Shared → Prop} (hs : s.heap.IsSliceOf sl .none .none vs) (ps : IsPart vs (some (-1)))
    (h : Q ((n : Int) - 1, -1, n) s) : wpAny (model prog w) A (Builtin.Slice.sliceApplied (.ref sl) (pure (n : Int))) Q E s := by
  obtain ⟨os, hos, hcs, hds⟩ := id hs
  unfold Builtin.Slice.sliceApplied Builtin.Slice.sliceFields
  refine wpAny_bind (wpAny_bind (wpAny_field hos hds (x := .none) rfl (wpAny_bind (wpAny_field hos hds (x := .none) rfl (wpAny_bind (wpAny_field hos hds (x := vs) rfl (wpAny_pure ?_)))))))
  refine wpAny_bind (slicePart_ ps ?_)
  show wpAny _ _ (if ((-1 : Int) == 0) = true then _ else _) _ _ s
  rw [if_neg (by decide)]
  refine wpAny_bind (slicePart_none (wpAny_bind (slicePart_none (wpAny_bind (wpAny_pure ?_)))))
  show wpAny _ _ (pure ((n : Int) - 1, (-1 : Int), Builtin.Slice.slicePlaces ((n : Int) - 1) (-1) (-1))) _ _ s
  rw [places_rev]
  exact wpAny_pure h
theorem fm_congr {α β : Type} {f g : α → Option β} : ∀ {l : List α}, (∀ x ∈ l, f x = g x) → l.filterMap f = l.filterMap g
  | [], _ => rfl
  | x :: l, h => by
    rw [List.filterMap_cons, List.filterMap_cons, h x (by simp), fm_congr fun y hy => h y (by simp [hy])]
theorem pick_rev (xs : Array Value) : ((List.range xs.size).filterMap fun (m : Nat) => xs[((xs.size : Int) - 1 + (m : Int) * -1).toNat]?).toArray = xs.toList.reverse.toArray := by
  have e : (List.range xs.size).filterMap (fun (m : Nat) => xs[((xs.size : Int) - 1 + (m : Int) * -1).toNat]?) = ((List.range xs.size).map fun k => xs.size - 1 - k).filterMap (xs[·]?) := by
    rw [List.filterMap_map]
    refine fm_congr fun m hm => ?_
    have := List.mem_range.mp hm
    have e2 : ((xs.size : Int) - 1 + (m : Int) * -1).toNat = xs.size - 1 - m := by omega
    rw [e2]
    rfl
  rw [e, PySem.W.krv_range, List.filterMap_reverse, PySem.W.krv_all]
theorem getItem_tuple_rev {t sl : Addr} {items : Array Value} {vs : Value} {Q : Value → Shared → Prop} (ht : IsTup s.heap t items) (hs : s.heap.IsSliceOf sl .none .none vs) (ps : IsPart vs (some (-1)))
    (h : Q (.ref s.heap.objs.size) { s with heap := s.heap.push { cls := .type "tuple", data := .seq items.toList.reverse.toArray } })
    (hsz : items.size ≤ sizeLine) : wpAny (model prog w) A (getItem (.ref t) (.ref sl)) Q E s := by
  have htake : sizeOk (.seq items.toList.reverse.toArray) := by
    show items.toList.reverse.toArray.size ≤ sizeLine
    rw [List.size_toArray, List.length_reverse, Array.length_toList]
    exact hsz
  obtain ⟨os, hos, hcs, hds⟩ := id hs
  have hTs : s.TypeIs (.ref sl) "slice" := ⟨os, hos, hcs⟩
  unfold getItem
  try with_reducible refine wpAny_holding ?_
  first | refine wpAny_bind (wpAny_pure ?_) | skip
  refine wpAny_bind (wpAny_sequenceKey ht.typeIs (by decide) ?_)
  refine wpAny_bind (wpAny_callSpecial?_slot (name := Str.ofString "__getitem__") ht.typeIs PyProof.Rows.slot_tuple_getitem
    (wpAny_call_entry PyProof.Rows.slot_tuple_getitem ht.typeIs entry_tuple_getitem ?_ (args_tuple_getitem _ _)))
  show wpAny _ _ (Builtin.Tuple.tupleItemsOf (.ref t) >>= _) _ _ s
  refine wpAny_bind (tupleItemsOf_ ht ?_)
  refine wpAny_bind (wpAny_typeOf hTs ?_)
  rw [if_pos (by decide)]
  refine wpAny_bind (sliceApplied_rev hs ps ?_)
  have hno : ¬ ((((items.size : Int) - 1 == 0) && ((-1 : Int) == 1) && (items.size == items.size)) = true) := by
    intro q
    rw [Bool.and_eq_true, Bool.and_eq_true] at q
    exact absurd q.1.2 (by decide)
  show wpAny _ _ (if (((items.size : Int) - 1 == 0) && ((-1 : Int) == 1) && (items.size == items.size)) = true then _ else _) _ _ s
  rw [if_neg hno, pick_rev]
  first
    | exact wpAny_bind (m := Builtin.Tuple.tupleExact _) (wpAny_newObj_type (wpAny_pure ⟨_, rfl, wpAny_pure h⟩) htake)
    | exact wpAny_bind (m := Builtin.Tuple.tupleExact _) (wpAny_newObj_type (wpAny_bind (wpAny_pure (wpAny_pure ⟨_, rfl, wpAny_pure h⟩))) htake)
    | exact wpAny_bind (wpAny_bind (m := Builtin.Tuple.tupleExact _) (wpAny_newObj_type (wpAny_pure (wpAny_pure ⟨_, rfl, wpAny_pure h⟩)) htake))
    | exact wpAny_bind (wpAny_bind (m := Builtin.Tuple.tupleExact _) (wpAny_newObj_type (wpAny_pure ⟨_, rfl, wpAny_pure h⟩) htake))
end
def tRevT (K : PySem.W.Frag) (te : TE) : TE := fun σ H Q => te σ H fun x H1 => ∃ a xs, x = .ref a ∧ SqT K H1 a xs ∧ ∀ p, H1 p = none → Q (.ref p) (upd H1 p (.tup xs.reverse))
theorem pe_revT {X : Cx} (K : PySem.W.Frag) {e : Expr} {te : TE} {k : Nat} {p1 p2 p3 pos : Pos} (he : PE X e te) (hK : X.K = K := by rfl) : PE X (.Subscript e (.Slice none none (some (.UnaryOp .USub (.Constant (.int 1) k p1) p2)) p3) pos) (tRevT K te) := by
  subst hK
  refine ⟨fun pins s σ H Q I h => ?_⟩
  refine Subscript_ (thn (he.run pins s σ H _ I h) fun v s1 ⟨x, H1, I1, r1, q1⟩ => ?_)
  obtain ⟨a, xs, ex, hx, q⟩ := q1
  subst ex
  cases r1
  have hst : PO X (some (.UnaryOp .USub (.Constant (.int 1) k p1) p2)) (tPart (tUn (rU fun i => .int (-i)) (tC (.int 1)))) := po_some (pe_un un_neg pe_int)
  refine wpAny_Slice (thn (po_none.run pins s1 σ H1 (fun o H2 => o = none ∧ H2 = H1) I1 ⟨rfl, rfl⟩) fun vl s2 ⟨l, H2, I2, pl, el, e2⟩ => ?_)
  subst el e2
  refine thn (po_none.run pins s2 σ H2 (fun o H3 => o = none ∧ H3 = H2) I2 ⟨rfl, rfl⟩) fun vu s3 ⟨u, H3, I3, pu, eu, e3⟩ => ?_
  subst eu e3
  refine thn (hst.run pins s3 σ H3 (fun o H4 => o = some (-1) ∧ H4 = H3) I3 ⟨1, rfl, -1, rfl, rfl, rfl⟩) fun vs s4 ⟨o, H4, I4, ps, eo, e4⟩ => ?_
  subst eo e4
  cases pl
  cases pu
  have I5 : Inv X pins σ H4 { s4 with heap := s4.heap.push { cls := .type "slice", data := .fields #[.none, .none, vs] } } := I4.kept (t' := s4.toks) fun b ob q => Heap.get?_push_of_some _ q
  obtain ⟨its, r, ht, hz⟩ := I5.tuple hx
  have hlen := r.length
  show wpAny (model X.prog X.w) X.A (subscriptTail e (.Slice none none (some (.UnaryOp .USub (.Constant (.int 1) k p1) p2)) p3) (.ref a) (.ref s4.heap.objs.size)) (EP X pins σ Q) X.xe { s4 with heap := s4.heap.push { cls := .type "slice", data := .fields #[.none, .none, vs] } }
  refine tail_any (ops := [.ref a, .ref s4.heap.objs.size]) ht.typeIs (PyProof.Rows.slot_tuple_getitem.lookup) ?_ (by with_unfolding_all rfl)
  refine getItem_tuple_rev ht (Heap.IsSliceOf.new _ .none .none vs) ps ?_ (by rw [List.size_toArray]; omega)
  refine ⟨.ref _, _, I5.laid (t' := s4.toks) (o := .tup xs.reverse) (fun b ob q => Heap.get?_push_of_some _ q) (Nat.le_refl _) ?_, rfl, q _ (I5.hok.fresh (Nat.le_refl _))⟩
  exact ⟨by rw [List.length_reverse]; exact hz, _, r.reverse, IsTup.new _ _⟩
end LK
/-! what lays data of which only a property is told -/
namespace LK
open PySem PySem.Spec PyProof.Rows L2
theorem inD {X : Cx} (K : PySem.W.Frag) (hu : X.A.units + 65 < cLine) (hK : X.K = K := by rfl) : OpR X (compareOp .In) (rInD K) := hK ▸ op_inD hu
def YldP (K : PySem.W.Frag) (S p : Addr) (H0 : Hp) (σ : L2.St) (t : TE) (G : PyData → Prop) : Prop := ∀ H (Q : VK), Mv S p H0 H → (∀ v d H', G d → Mv S p H H' → Rp K (hide S H') v d → Q v H') → t σ H Q
def YldQ (K : PySem.W.Frag) (S p : Addr) (H0 : Hp) (σ : L2.St) (t : TA) (m : Nat) : Prop := ∀ H Q, Mv S p H0 H → (∀ vs ds H', ds.length = m → Mv S p H H' → RpAll K (hide S H') vs ds → Q vs H') → t σ H Q
def TupLe (m : Nat) (d : PyData) : Prop := ∃ ds, d = .tuple ds ∧ ds.length ≤ m
def LstEq (m : Nat) (d : PyData) : Prop := ∃ ds, d = .list ds ∧ ds.length = m
def AnyD (_ : PyData) : Prop := True
def PartOk (tl : TO) (σ : L2.St) : Prop := ∀ H R, (∀ o, R o H) → tl σ H R
theorem RpAll.reverse {K : PySem.W.Frag} {H : Hp} : ∀ {ds : List PyData} {vs : List V}, RpAll K H vs ds → RpAll K H vs.reverse ds.reverse
  | [], _, .nil => .nil
  | d :: ds, _, .cons a b => by
    rw [List.reverse_cons, List.reverse_cons]
    exact (RpAll.reverse b).app (.one a)
theorem rpTake {K : PySem.W.Frag} {H : Hp} : ∀ (n : Nat) {ds : List PyData} {vs : List V}, RpAll K H vs ds → RpAll K H (vs.take n) (ds.take n)
  | 0, _, _, _ => .nil
  | n + 1, [], _, .nil => .nil
  | n + 1, d :: ds, _, .cons a b => .cons a (rpTake n b)
theorem rpDrop {K : PySem.W.Frag} {H : Hp} : ∀ (n : Nat) {ds : List PyData} {vs : List V}, RpAll K H vs ds → RpAll K H (vs.drop n) (ds.drop n)
  | 0, _, _, r => r
  | n + 1, [], _, .nil => .nil
  | n + 1, d :: ds, _, .cons a b => rpDrop n b
theorem RpAll.cut {K : PySem.W.Frag} {H : Hp} {ds : List PyData} {vs : List V} (r : RpAll K H vs ds) (lo hi : Option Int) : ∃ es, RpAll K H (cutV vs lo hi) es ∧ es.length ≤ ds.length := by
  have := r.length
  refine ⟨_, rpTake _ (rpDrop _ r), ?_⟩
  rw [List.length_take, List.length_drop]
  omega
section
variable {K : PySem.W.Frag} {S p : Addr} {H0 : Hp} {σ : L2.St} {t ta tb : TE} {tt : TA} {tl th : TO} {d e : PyData} {ds : List PyData} {G G' : PyData → Prop} {m a b : Nat}
theorem YldP.mono (y : YldP K S p H0 σ t G) (h : ∀ d, G d → G' d) : YldP K S p H0 σ t G' := fun H Q mv k => y H Q mv fun v d H' g => k v d H' (h d g)
theorem p_any (y : YldP K S p H0 σ t G) : YldP K S p H0 σ t AnyD := y.mono fun _ _ => trivial
theorem p_of (y : Yld K S p H0 σ t d) (g : G d) : YldP K S p H0 σ t G := fun H Q mv k => y H Q mv fun v H' => k v d H' g
theorem p_ofA (y : Yld K S p H0 σ t d) : YldP K S p H0 σ t AnyD := p_of y trivial
theorem p_var {i : Nat} {v : V} (h : σ[i]? = some (some v)) (r : Rp K (hide S H0) v d) (g : G d) : YldP K S p H0 σ (tVar i) G := p_of (y_var h r) g
theorem q_nil : YldQ K S p H0 σ tNil 0 := fun H Q mv k => k _ [] _ rfl (Mv.refl mv.ok) .nil
theorem q_cons (y : YldP K S p H0 σ t G) (ys : YldQ K S p H0 σ tt m) : YldQ K S p H0 σ (tCons t tt) (m + 1) := fun H Q mv k =>
  y H _ mv fun v d H' _ m' r => ys H' _ (mv.trans m') fun vs ds H2 hl m2 r2 => k _ (d :: ds) _ (by rw [List.length_cons, hl]) (m'.trans m2) (.cons (m2.rp r) r2)
theorem p_tup (y : YldQ K S p H0 σ tt m) (hz : m ≤ 1000 := by decide) : YldP K S p H0 σ (tTup tt) (TupLe m) := fun H Q mv k =>
  y H _ mv fun vs ds H' e m' r => by
    have hl : vs.length ≤ 1000 := by rw [r.length]; omega
    refine ⟨le_line hl, fun q hq => ?_⟩
    exact k _ _ _ ⟨ds, rfl, Nat.le_of_eq e⟩ (m'.then (same_upd hq)) (rp_tupNew (free_ne m'.ok hq) r hq hl)
theorem p_lst (y : YldQ K S p H0 σ tt m) (hz : m ≤ 1000 := by decide) : YldP K S p H0 σ (tLst tt) (LstEq m) := fun H Q mv k =>
  y H _ mv fun vs ds H' e m' r => by
    have hl : vs.length ≤ 1000 := by rw [r.length]; omega
    refine ⟨le_line hl, fun q hq => ?_⟩
    exact k _ _ _ ⟨ds, rfl, e⟩ (m'.then (same_upd hq)) (rp_lstNew (free_ne m'.ok hq) r hq hl)
theorem p_catL (ya : YldP K S p H0 σ ta (LstEq a)) (yb : YldP K S p H0 σ tb (LstEq b)) (h : a + b ≤ 1000) : YldP K S p H0 σ (tOp (rCatL K) ta tb) (LstEq (a + b)) := fun H Q mv k =>
  ya H _ mv fun v d H' ⟨ds, ed, el⟩ m' r => yb H' _ (mv.trans m') fun v2 d2 H2 ⟨es, ed2, el2⟩ m2 r2 => by
    subst ed ed2
    obtain ⟨a1, xs, rfl, ha, la, ra⟩ := (m2.rp r).lstA
    obtain ⟨b1, ys, rfl, hb, lb, rb⟩ := r2.lstA
    have e1 := ra.length
    have e2 := rb.length
    refine ⟨a1, b1, xs, ys, rfl, rfl, (hide_same _ _).seq ha, (hide_same _ _).seq hb, by omega, fun q hq => ?_⟩
    exact k _ _ _ ⟨ds ++ es, rfl, by rw [List.length_append]; omega⟩ ((m'.trans m2).then (same_upd hq)) (rp_lstNew (free_ne m2.ok hq) (ra.app rb) hq (by rw [List.length_append]; omega))
theorem p_catT (ya : YldP K S p H0 σ ta (TupLe a)) (yb : YldP K S p H0 σ tb (TupLe b)) (h : a + b ≤ 1000) : YldP K S p H0 σ (tOp (rCatA K) ta tb) (TupLe (a + b)) := fun H Q mv k =>
  ya H _ mv fun v d H' ⟨ds, ed, el⟩ m' r => yb H' _ (mv.trans m') fun v2 d2 H2 ⟨es, ed2, el2⟩ m2 r2 => by
    subst ed ed2
    obtain ⟨a1, xs, rfl, ha, la, ra⟩ := (m2.rp r).tupA
    obtain ⟨b1, ys, rfl, hb, lb, rb⟩ := r2.tupA
    have e1 := ra.length
    have e2 := rb.length
    refine catA_use (seqT (hide_same _ _) ha) (seqT (hide_same _ _) hb) (by omega) fun q H3 s3 hq => ?_
    have m3 := (m'.trans m2).then s3
    obtain ⟨zs3, hS3⟩ := m3.ok.atS
    exact k _ _ _ ⟨ds ++ es, rfl, by rw [List.length_append]; omega⟩ m3 (.tup (seqT_hide hS3 hq) (by rw [List.length_append]; omega) ((ra.app rb).same (hide_mono s3)))
theorem p_revT (y : YldP K S p H0 σ t (TupLe m)) : YldP K S p H0 σ (tRevT K t) (TupLe m) := fun H Q mv k =>
  y H _ mv fun v d H' ⟨ds, ed, el⟩ m' r => by
    subst ed
    obtain ⟨a1, xs, rfl, ha, la, ra⟩ := r.tupA
    refine ⟨a1, xs, rfl, seqT (hide_same _ _) ha, fun q hq => ?_⟩
    exact k _ _ _ ⟨ds.reverse, rfl, by rw [List.length_reverse]; exact el⟩ (m'.then (same_upd hq)) (rp_tupNew (free_ne m'.ok hq) ra.reverse hq (by rw [List.length_reverse]; exact la))
theorem p_listOf (y : YldP K S p H0 σ t (TupLe m)) : YldP K S p H0 σ (tCB (rLstOf K) (tCons t tNil)) AnyD := fun H Q mv k =>
  y H _ mv fun v d H' ⟨ds, ed, el⟩ m' r => by
    subst ed
    obtain ⟨a1, xs, rfl, ha, la, ra⟩ := r.tupA
    refine ⟨a1, xs, rfl, .inr (seqT (hide_same _ _) ha), fun q hq => ?_⟩
    exact k _ _ _ trivial (m'.then (same_upd hq)) (rp_lstNew (free_ne m'.ok hq) ra hq la)
theorem part_no : PartOk tNoPart σ := fun H R h => h none
theorem part_int {i : Int} : PartOk (tPart (tC (.int i))) σ := fun H R h => ⟨i, rfl, h (some i)⟩
theorem part_neg {i : Int} : PartOk (tPart (tUn (rU fun i => .int (-i)) (tC (.int i)))) σ := fun H R h => ⟨i, rfl, -i, rfl, h (some (-i))⟩
theorem p_sl (y : YldP K S p H0 σ t (TupLe m)) (hl : PartOk tl σ) (hh : PartOk th σ) : YldP K S p H0 σ (tSl (rSlA K) t tl th) (TupLe m) := fun H Q mv k =>
  y H _ mv fun v d H' ⟨ds, ed, el⟩ m' r => hl _ _ fun lo => hh _ _ fun hi => by
    subst ed
    obtain ⟨a1, xs, rfl, ha, la, ra⟩ := r.tupA
    refine slA_use (seqT (hide_same _ _) ha) fun q H3 s3 hq => ?_
    have m3 := m'.then s3
    obtain ⟨zs3, hS3⟩ := m3.ok.atS
    obtain ⟨es, re, le⟩ := ra.cut lo hi
    have := cutV_length xs lo hi
    exact k _ _ _ ⟨es, rfl, by omega⟩ m3 (.tup (seqT_hide hS3 hq) (by omega) (re.same (hide_mono s3)))
theorem p_useL {Q : VK} {H : Hp} (y : YldP K S p H σ (tLst tt) G) (st : StOk H S p) (k : ∀ v d H', G d → Mv S p H H' → Rp K (hide S H') v d → Q v H') : tLst tt σ H Q := y H Q (Mv.refl st) k
theorem p_useO {r : R2} {Q : VK} {H : Hp} (y : YldP K S p H σ (tOp r ta tb) G) (st : StOk H S p) (k : ∀ v d H', G d → Mv S p H H' → Rp K (hide S H') v d → Q v H') : tOp r ta tb σ H Q := y H Q (Mv.refl st) k
end
end LK
/-! lists of data that are appended to; what slices and comparisons lay -/
namespace LK
open PySem PySem.Spec PyProof.Rows L2
theorem cutDG {xs : List V} {k : Nat} : cutV xs (some (k : Int)) none = xs.drop k := by
  by_cases c : k ≤ xs.length
  · rw [cut_drop (by omega) (by omega)]
    rfl
  · have h : HT.sIx xs.length 0 (some (k : Int)) = xs.length := by
      have := HT.clip_eq (k : Int) xs.length 0
      rw [if_neg (by omega)] at this
      omega
    unfold cutV
    rw [h, List.drop_eq_nil_of_le (Nat.le_refl _), List.drop_eq_nil_of_le (by omega), List.take_nil]
theorem cutTG {xs : List V} {k : Nat} : cutV xs none (some (k : Int)) = xs.take k := by
  by_cases c : k ≤ xs.length
  · rw [cut_take (by omega) (by omega)]
    rfl
  · have h : HT.sIx xs.length xs.length (some (k : Int)) = xs.length := by
      have := HT.clip_eq (k : Int) xs.length xs.length
      rw [if_neg (by omega)] at this
      omega
    have h2 : HT.sIx xs.length 0 none = 0 := rfl
    unfold cutV
    rw [h, h2, List.drop_zero, Nat.sub_zero, List.take_of_length_le (Nat.le_refl _), List.take_of_length_le (by omega)]
structure GrowD (K : PySem.W.Frag) (S p D : Addr) (H H' : Hp) (xs : List V) (ds : List PyData) : Prop where
  mv : Mv S p H H'
  at_ : H' D = some (.lst xs)
  rp : RpAll K (hide D (hide S H')) xs ds
  len : xs.length ≤ 500
variable {K : PySem.W.Frag} {S p D : Addr} {H H1 H2 : Hp} {xs : List V} {ds : List PyData}
theorem GrowD.mvs (g : GrowD K S p D H H1 xs ds) (hD : H D = none) (st : StOk H S p) (m : Mv S p H1 H2) : GrowD K S p D H H2 xs ds := by
  have DS := free_ne st hD
  exact ⟨g.mv.trans m, m.get DS g.at_, g.rp.same (hide_mono m.same), g.len⟩
theorem GrowD.ext (g : GrowD K S p D H H1 xs ds) (hD : H D = none) (st : StOk H S p) {ys : List V} {es : List PyData} (r : RpAll K (hide S H1) ys es) (n : noLs es = true) (hx : xs.length + ys.length ≤ 500) : GrowD K S p D H (upd H1 D (.lst (xs ++ ys))) (xs ++ ys) (ds ++ es) := by
  have DS := free_ne st hD
  refine ⟨g.mv.put st hD, upd_same, ?_, by rw [List.length_append]; exact hx⟩
  rw [hide2_self]
  exact g.rp.app (rpAll_hideL (zs := xs) (by rw [hide_ne DS]; exact g.at_) n r)
theorem GrowD.push (g : GrowD K S p D H H1 xs ds) (hD : H D = none) (st : StOk H S p) {y : V} {d : PyData} (r : Rp K (hide S H1) y d) (n : noL d = true) (hx : xs.length < 500) : GrowD K S p D H (upd H1 D (.lst (xs ++ [y]))) (xs ++ [y]) (ds ++ [d]) :=
  g.ext hD st (.one r) (by unfold noLs; rw [n]; rfl) hx
theorem GrowD.done (g : GrowD K S p D H H1 xs ds) (hD : H D = none) (st : StOk H S p) : Rp K (hide S H1) (.ref D) (.list ds) :=
  .lst (SqL.of (by rw [hide_ne (free_ne st hD)]; exact g.at_)) (by have := g.len; omega) (g.rp.same (hide_same _ _))
section
variable {σ : L2.St} {t ta tb : TE} {tt : TA} {H0 : Hp}
theorem y_useG {Q : VK} (y : YldA K S p H σ tt ds) (st : StOk H S p) (hz : ds.length ≤ 400) (k : ∀ A xs H', H A = none → GrowD K S p A H H' xs ds → xs.length = ds.length → Q (.ref A) H') : tLst tt σ H Q :=
  y H _ (Mv.refl st) fun vs H' m r => by
    have hl := r.length
    refine ⟨le_line (by omega), fun q hq => ?_⟩
    refine k q vs _ (m.free hq) ⟨m.then (same_upd hq), upd_same, ?_, by omega⟩ hl
    rw [hide2_self]
    refine r.same fun b u e => ?_
    have : b ≠ q := fun z => by
      rw [z] at e
      have := hide_get e
      rw [hq] at this
      cases this
    rw [hide_ne this]
    exact e
theorem y_lstOf (y : Yld K S p H0 σ t (.tuple ds)) : Yld K S p H0 σ (tCB (rLstOf K) (tCons t tNil)) (.list ds) := fun H Q mv k =>
  y H _ mv fun v H' m' r => by
    obtain ⟨a1, xs, rfl, ha, la, ra⟩ := r.tupA
    refine ⟨a1, xs, rfl, .inr (seqT (hide_same _ _) ha), fun q hq => ?_⟩
    exact k _ _ (m'.then (same_upd hq)) (rp_lstNew (free_ne m'.ok hq) ra hq la)
theorem y_sl {tl th : TO} {lo hi : Option Int} (y : Yld K S p H0 σ t (.tuple ds)) (hl : ∀ H R, R lo H → tl σ H R) (hh : ∀ H R, R hi H → th σ H R) {es : List PyData} (hc : ∀ (H : Hp) (xs : List V), RpAll K H xs ds → RpAll K H (cutV xs lo hi) es) : Yld K S p H0 σ (tSl (rSlA K) t tl th) (.tuple es) := fun H Q mv k =>
  y H _ mv fun v H' m' r => hl _ _ (hh _ _ (by
    obtain ⟨a1, xs, rfl, ha, la, ra⟩ := r.tupA
    refine slA_use (seqT (hide_same _ _) ha) fun q H3 s3 hq => ?_
    have m3 := m'.then s3
    obtain ⟨zs3, hS3⟩ := m3.ok.atS
    have := cutV_length xs lo hi
    exact k _ _ m3 (.tup (seqT_hide hS3 hq) (by omega) ((hc _ _ ra).same (hide_mono s3)))))
theorem y_take {k : Nat} (y : Yld K S p H0 σ t (.tuple ds)) : Yld K S p H0 σ (tSl (rSlA K) t tNoPart (tPart (tC (.int (k : Int))))) (.tuple (ds.take k)) :=
  y_sl (lo := none) (hi := some (k : Int)) y (fun _ _ h => h) (fun _ _ h => ⟨_, rfl, h⟩) fun H xs r => by rw [cutTG]; exact rpTake k r
theorem y_drop {k : Nat} (y : Yld K S p H0 σ t (.tuple ds)) : Yld K S p H0 σ (tSl (rSlA K) t (tPart (tC (.int (k : Int)))) tNoPart) (.tuple (ds.drop k)) :=
  y_sl (lo := some (k : Int)) (hi := none) y (fun _ _ h => ⟨_, rfl, h⟩) (fun _ _ h => h) fun H xs r => by rw [cutDG]; exact rpDrop k r
theorem y_eq {i j : Int} (ya : Yld K S p H0 σ ta (.int i)) (yb : Yld K S p H0 σ tb (.int j)) : Yld K S p H0 σ (tOp rEq ta tb) (.bool (decide (V.int i = V.int j))) := fun H Q m k =>
  ya H _ m fun v H' m' r => by
    cases r
    refine yb H' _ (m.trans m') fun v2 H2 m2 r2 => ?_
    cases r2
    exact ⟨rfl, k _ _ (m'.trans m2) (.bl _)⟩
theorem y_intB {b : Bool} (y : Yld K S p H0 σ t (.bool b)) : Yld K S p H0 σ (tCB (fun xs H Q => (∃ i, xs = [.int i] ∧ Q (.int i) H) ∨ ∃ k, xs = [.bl k] ∧ Q (.int (if k then 1 else 0)) H) (tCons t tNil)) (.int (if b then 1 else 0)) := fun H Q m k =>
  y H _ m fun v H' m' r => by
    cases r
    exact .inr ⟨b, rfl, k _ _ m' (.int _)⟩
theorem y_cast {d e : PyData} (y : Yld K S p H0 σ t d) (h : d = e) : Yld K S p H0 σ t e := h ▸ y
theorem y_useV {Q : VK} {d : PyData} (y : Yld K S p H σ t d) (st : StOk H S p) (k : ∀ v H', Mv S p H H' → Rp K (hide S H') v d → Q v H') : t σ H Q := y H Q (Mv.refl st) k
end
end LK
/-! tuple(reversed(t)), t a tuple -/
namespace LK
open PySem PySem.Spec PyProof.Rows L2 RT
theorem rv_nolen : typeLookup (.type "reversed") "__len__" = pure none := by
  rw [typeLookup_type, builtinLookup_eq_fast]; kernel_rfl
theorem rv_hint : typeLookup (.type "reversed") "__length_hint__" = pure (some (.builtin "reversed.__length_hint__")) := by
  rw [typeLookup_type, builtinLookup_eq_fast]; kernel_rfl
theorem rv_slot : Slot "reversed" "__length_hint__" "reversed.__length_hint__" := .of (owner := "reversed") (n := "__length_hint__") (by rw [typeLookup_type, builtinLookup_eq_fast]; kernel_rfl) (by decide +kernel) (by decide +kernel) (by decide +kernel) (by first | exact .inl (by decide +kernel) | exact .inr (by decide +kernel)) (by rw [isSubtype_type]; kernel_rfl)
theorem rv_entry : entryFor table "reversed.__length_hint__" = some Builtin.«reversed.__length_hint__» := by exact entryFor_of_tree (by kernel_rfl)
theorem rv_args (a : Value) : argsOk "reversed.__length_hint__" ⟨[a], []⟩ := by
  unfold argsOk
  rw [signature?_of (id := "reversed.__length_hint__") (n := ['_', '_', 't', 'n', 'i', 'h', '_', 'h', 't', 'g', 'n', 'e', 'l', '_', '_']) (o := ['d', 'e', 's', 'r', 'e', 'v', 'e', 'r']) (by kernel_rfl) owner_rt]
  kernel_rfl
section
variable {prog : Program} {w : World} {A : Around} {E : Value → Shared → Prop} {s : Shared}
/-- what is walked: the tuple from its end -/
theorem rv_walks (hh : A.handled = none) (I t : Addr) (ne : t ≠ I) (items : Array Value) (hz : items.size ≤ sizeLine) : Walks prog w A I [I, t] [I] items.size (fun i v => items[items.size - 1 - i]? = some v) (fun i h => i ≤ items.size ∧ IsRt h I t ((items.size : Int) - 1 - (i : Int)) ∧ IsTup h t items) := by
  refine ⟨fun b hb => ?_, fun i h h' x hk => ?_, fun i s Q E hi x hQ => ?_, fun s Q E x hQ => ?_, fun i s Q E x hQ => iter_rt x.2.1 hQ⟩
  · rw [List.mem_singleton.mp hb]
    exact List.mem_cons_self
  · obtain ⟨o, h1, h2⟩ := x.2.2
    exact ⟨x.1, x.2.1.at fun o e => hk I List.mem_cons_self o e, o, hk t (by simp) o h1, h2⟩
  · have e : (items.size : Int) - 1 - (i : Int) = ((items.size - 1 - i : Nat) : Int) := by omega
    have hit := x.2.1
    rw [e] at hit
    refine next_rt_item hit x.2.2 (Array.getElem?_eq_getElem (by omega)) hz fun h' hit' sb => ?_
    have e2 : ((items.size - 1 - i : Nat) : Int) - 1 = (items.size : Int) - 1 - ((i + 1 : Nat) : Int) := by omega
    rw [e2] at hit'
    obtain ⟨o, h1, h2⟩ := x.2.2
    exact hQ _ h' _ (Array.getElem?_eq_getElem (by omega)) ⟨hi, hit', o, (sb.2 t ne).trans h1, h2⟩ fun b o hb eo => (sb.2 b fun z => hb (by simp [z])).trans eo
  · have e : (items.size : Int) - 1 - (items.size : Int) = -1 := by omega
    have hit := x.2.1
    rw [e] at hit
    exact next_rt_end hh hit fun h' eb => hQ h' s.toks fun b o hb eo => eb b o (fun z => hb (by simp [z])) eo
theorem rv_call_hint {I t : Addr} {items : Array Value} {Q : Value → Shared → Prop} (hit : IsRt s.heap I t ((items.size : Int) - 1)) (ht : IsTup s.heap t items) (hz : items.size ≤ sizeLine)
    (h : ∀ t tk, Q (.int (items.size : Nat) t) { s with toks := tk }) : wpAny (model prog w) A (call (.builtin "reversed.__length_hint__") [.ref I]) Q E s := by
  have hT : s.TypeIs (.ref I) "reversed" := hit.typeIs
  obtain ⟨o, ho, hc, hd⟩ := id hit
  refine wpAny_call_entry rv_slot hT rv_entry ?_ (rv_args _)
  unfold Builtin.«reversed.__length_hint__»
  refine wpAny_bind (wpAny_of_eq (a := Value.ref I) rfl (wpAny_bind (wpAny_field ho hd (x := .ref t) rfl ?_)))
  refine wpAny_ite_split (fun z => by simp at z) fun _ => ?_
  refine wpAny_bind (len_tuple ht (by rw [sizeLine_eq] at hz; omega) (wpAny_bind (m := asInt? _) (wpAny_pure ?_)))
  dsimp only
  refine wpAny_bind (wpAny_field (s := { s with toks := s.toks + 1 + 1 }) ho hd (x := rawInt ((items.size : Int) - 1)) rfl ?_)
  unfold rawInt
  dsimp only
  refine wpAny_ite_split (fun z => by have : ((items.size : Nat) : Int) < (items.size : Int) - 1 + 1 := z; omega) fun _ => ?_
  have e : (items.size : Int) - 1 + 1 = ((items.size : Nat) : Int) := by omega
  rw [e]
  exact wpAny_bind (wpAny_mkInt (wpAny_pure ⟨_, rfl, h _ _⟩))
theorem rv_length_hint {I t : Addr} {items : Array Value} {Q : Bool → Shared → Prop} (hit : IsRt s.heap I t ((items.size : Int) - 1)) (ht : IsTup s.heap t items) (hz : items.size ≤ sizeLine)
    (h : ∀ b tk, Q b { s with toks := tk }) : wpAny (model prog w) A (Builtin.List.listLengthHint (.ref I)) Q E s := by
  have hT : s.TypeIs (.ref I) "reversed" := hit.typeIs
  unfold Builtin.List.listLengthHint
  refine wpAny_bind (wpAny_specialOf hT rv_nolen ?_)
  show wpAny _ A (specialOf (Value.ref I) (Str.ofString "__length_hint__") >>= _) _ _ _
  refine wpAny_bind (wpAny_specialOf hT rv_hint ?_)
  (generalize hid : ("reversed.__length_hint__" : String) = id0; wp_delta; rw [show splitId id0 = some ("reversed", "__length_hint__") from by subst hid; decide +kernel]; subst hid)
  refine wpAny_bind (wpAny_isInstance (b := true) hT (by rw [isSubtype_type]; kernel_rfl) ?_)
  refine wpAny_ite_split (fun z => absurd z (by decide)) fun _ => ?_
  refine wpAny_ite_split (fun z => absurd z (by decide +kernel)) fun _ => ?_
  refine wpAny_bind (wpAny_rule ?_)
  unfold bindSpecial
  refine wpAny_bind (wpAny_bind (m := typeOf (.builtin "reversed.__length_hint__")) (wpAny_of_eq (a := Value.type "method_descriptor") (by rfl) ?_))
  refine wpAny_ite_split (fun _ => ?_) (fun z => absurd rfl z)
  refine wpAny_pure ?_
  dsimp only
  refine wpAny_bind (wpAny_attempt (rv_call_hint hit ht hz fun tk tks => ?_))
  dsimp only
  have hl : ((items.size : Nat) : Int) < 9223372036854775808 := by rw [sizeLine_eq] at hz; omega
  generalize ek : ((items.size : Nat) : Int) = kk at hl
  refine wpAny_bind ?_
  unfold asInt?
  refine wpAny_pure ?_
  subst ek
  dsimp only
  have hf : Builtin.List.listFitsIndex ((items.size : Nat) : Int) = true := by
    have e1 : Builtin.List.listFitsIndex ((items.size : Nat) : Int) = (decide (-9223372036854775808 ≤ ((items.size : Nat) : Int)) && decide (((items.size : Nat) : Int) < 9223372036854775808)) := rfl
    rw [e1, decide_eq_true (by omega), decide_eq_true hl]
    rfl
  rw [hf, if_neg (show ¬ (!true) = true by decide), if_neg (show ¬ ((items.size : Nat) : Int) < 0 by omega)]
  have hb : Builtin.List.listTooLong (Int.toNat ((items.size : Nat) : Int)) = false := by
    rw [Int.toNat_natCast]
    exact decide_eq_false (by omega)
  rw [hb, if_neg Bool.false_ne_true]
  exact wpAny_pure (h _ _)
theorem rv_extend {Qf : Fin → Shared → Prop} {Ef : Value → Shared → Prop} {R : Result → Shared → Prop} {I t : Addr} {items : Array Value} (hh : A.handled = none) (hit : IsRt s.heap I t ((items.size : Int) - 1)) (ht : IsTup s.heap t items) (ne : t ≠ I) (hz : items.size ≤ sizeLine) (S : Addr) (res : Value) (c₀ : Nat)
    (hS : s.heap.get? S = some { cls := .type "list", data := .seq #[] c₀ }) (hSI : S ≠ I) (hSt : S ≠ t)
    (start : ∀ s', codeAny (model prog w) A (.builtin "list.extend.loop" ⟨[.ref S, .ref I, res], []⟩) R s' → Qf (.again (.builtin "list.extend.loop" ⟨[.ref S, .ref I, res], []⟩)) s')
    (hR : ∀ h' tk acc' c', (∀ b o, b ≠ S → b ≠ I → s.heap.get? b = some o → h'.get? b = some o) → h'.get? S = some { cls := .type "list", dict := none, data := .seq acc' c', slots := #[] } →
      ItemsOf (fun i v => items[items.size - 1 - i]? = some v) acc' items.size → R (.ok (.ret res)) { s with heap := h', toks := tk }) :
    wpAny (model prog w) A.in1 (Builtin.List.listExtendWith (.ref S) (.ref I) res) Qf Ef s := by
  have W := (rv_walks (prog := prog) (w := w) (A := A.in1) hh I t ne items hz).toS
  have hSf : S ∉ [I, t] := by simp [hSI, hSt]
  have e0 : (items.size : Int) - 1 - ((0 : Nat) : Int) = (items.size : Int) - 1 := by omega
  have last : ∀ (h1 : Heap) (tk1 c1 : Nat), (∀ b o, b ≠ S → s.heap.get? b = some o → h1.get? b = some o) → h1.get? S = some { cls := .type "list", data := .seq #[] c1 } →
      codeAny (model prog w) A (.builtin "list.extend.loop" ⟨[.ref S, .ref I, res], []⟩) R { s with heap := h1, toks := tk1 } := fun h1 tk1 c1 hk hS1 => by
    obtain ⟨o, g1, g2⟩ := ht
    refine codeAny_extend_loopS W hz S hSf res items.size 0 _ #[] c1 rfl (Nat.zero_le _) ⟨Nat.zero_le _, by rw [e0]; exact hit.at fun o e => hk I o hSI.symm e, o, hk t o hSt.symm g1, g2⟩ hS1 (ItemsOf.nil _) fun s' acc' c' hm hS' hacc => ?_
    rw [Moved.eq_with hm]
    refine hR s'.heap s'.toks acc' c' (fun b o hb hb2 e => hm.heap b o (fun m => ?_) (hk b o hb e)) hS' hacc
    rcases List.mem_cons.mp m with z | m
    · exact hb z
    · exact hb2 (List.mem_singleton.mp m)
  unfold Builtin.List.listExtendWith
  refine wpAny_bind (wpAny_typeOf hit.typeIs ?_)
  refine wpAny_ite_split (fun z => ?_) fun _ => ?_
  · exfalso
    have h1 : Builtin.List.listSameRef (.ref S) (.ref I) = false := by simp [Builtin.List.listSameRef, hSI]
    rw [h1] at z
    revert z
    decide
  refine wpAny_bind (iter_rt hit (wpAny_bind (wpAny_holding (rv_length_hint hit ht hz fun b tk => ?_))))
  refine wpAny_ite_split (fun _ => ?_) fun _ => wpAny_pure (start _ (last _ _ _ (fun _ _ _ e => e) hS))
  refine wpAny_bind (wpAny_rule ?_)
  unfold Builtin.List.listTouch
  refine wpAny_bind (wpAny_bind (m := updateSeq S _) (wpAny_updateSeq hS rfl ?_))
  have g1 := Heap.get?_update_self (Obj.mapSeq fun x : Array Value => x.push Value.none) hS rfl
  refine wpAny_updateSeq (s := { s with heap := s.heap.update S (Obj.mapSeq fun x : Array Value => x.push Value.none), toks := tk }) g1 rfl ?_
  have g2 := Heap.get?_update_self (Obj.mapSeq fun x : Array Value => x.pop) g1 rfl
  refine wpAny_pure (start _ (last _ _ _ (fun b o hb e => ?_) g2))
  exact (Heap.get?_update_other _ _ (Ne.symm hb)).trans ((Heap.get?_update_other _ _ (Ne.symm hb)).trans e)
theorem rv_collect {I t : Addr} {items : Array Value} {Q : List Value → Shared → Prop} (hh : A.handled = none) (hit : IsRt s.heap I t ((items.size : Int) - 1)) (ht : IsTup s.heap t items) (ne : t ≠ I) (hz : items.size ≤ sizeLine)
    (hQ : ∀ (h' : Heap) (tk : Nat) (acc : Array Value), (∀ b o, b ≠ I → s.heap.get? b = some o → h'.get? b = some o) → ItemsOf (fun i v => items[items.size - 1 - i]? = some v) acc items.size → Q acc.toList { s with heap := h', toks := tk }) :
    wpAny (model prog w) A (collect (.ref I)) Q E s := by
  obtain ⟨oi, hoi, hoi2⟩ := id hit
  obtain ⟨ot, hot, hot2⟩ := id ht
  have n1 : s.heap.objs.size ≠ I := Nat.ne_of_gt (Heap.lt_size hoi)
  have n2 : s.heap.objs.size ≠ t := Nat.ne_of_gt (Heap.lt_size hot)
  unfold collect
  refine wpAny_bind (wpAny_runValue (codeAny_builtin F.entry_proto_collect (by
    rw [Around.under_plainId F.plain_proto_collect _]
    show wpAny _ A.in1 (newList [] >>= fun l' => again (.builtin "list.__iadd__" ⟨[l', .ref I], []⟩)) _ _ s
    refine wpAny_bind (wpAny_newObj_type (wpAny_pure ⟨plainId_quiet F.plain_list_iadd _, codeAny_builtin F.entry_list_iadd ?_⟩))
    rw [Around.under_plainId F.plain_list_iadd _]
    show wpAny _ A.in1 (Builtin.List.listExtendWith (.ref s.heap.objs.size) (.ref I) (.ref s.heap.objs.size)) _ _ _
    refine rv_extend (A := A) (s := { s with heap := s.heap.push { cls := .type "list", data := .seq ([] : List Value).toArray } }) hh ⟨oi, Heap.get?_push_of_some _ hoi, hoi2⟩ ⟨ot, Heap.get?_push_of_some _ hot, hot2⟩ ne hz s.heap.objs.size _ _ (Heap.get?_push_size _ rfl) n1 n2 (fun s' h => ⟨plainId_quiet F.plain_extend_loop _, h⟩) fun h' tk acc c' hk hS hacc => ?_
    show wpAny _ A (load s.heap.objs.size >>= _) _ _ _
    refine wpAny_bind (wpAny_load hS (wpAny_pure ?_))
    exact hQ h' tk acc (fun b o hb e => hk b o (fun z => absurd (Heap.lt_size e) (by rw [z]; exact Nat.lt_irrefl _)) hb (Heap.get?_push_of_some _ e)) hacc)))
theorem rv_tuple {I t : Addr} {items : Array Value} {Q : Value → Shared → Prop} (hh : A.handled = none) (hit : IsRt s.heap I t ((items.size : Int) - 1)) (ht : IsTup s.heap t items) (ne : t ≠ I) (hz : items.size ≤ sizeLine)
    (hQ : ∀ (h' : Heap) (tk : Nat) (acc : Array Value), (∀ b o, b ≠ I → s.heap.get? b = some o → h'.get? b = some o) → ItemsOf (fun i v => items[items.size - 1 - i]? = some v) acc items.size → Q (.ref h'.objs.size) { s with heap := h'.push { cls := .type "tuple", data := .seq acc }, toks := tk }) :
    wpAny (model prog w) A (call (.type "tuple") [.ref I]) Q E s := by
  have new : codeAny (model prog w) A.in1 (.call (.builtin "tuple.__new__") ⟨[.type "tuple", .ref I], []⟩) (wants (fun obj s₁ => s₁.TypeIs obj "tuple" ∧ Q obj s₁) E) s := by
    refine codeAny_of_tree ?_
    show wpAny _ A.in1.in1 (checkBuiltinCall "tuple.__new__" ⟨[.type "tuple", .ref I], []⟩ >>= fun _ => again (.builtin "tuple.__new__" ⟨[.type "tuple", .ref I], []⟩)) _ _ s
    refine wpAny_bind (wpAny_of_eq (F.newCall_tuple_1 _) (wpAny_pure ⟨plainId_quiet F.plain_tuple_new _, codeAny_builtin F.entry_tuple_new (by
      rw [Around.under_plainId F.plain_tuple_new _]
      have a1 := sub_tuple_self
      have a2 := init_tuple_lookup
      have a3 := madeHere_tuple
      have a4 : s.TypeIs (.ref I) "reversed" := hit.typeIs
      have a5 : A.in1.in1.handled = none := hh
      wp_walk using wpAny_typeOf a4, rv_collect (A := A.in1.in1) a5 hit ht ne hz
      intro h' tk acc hk hacc
      show wpAny _ _ (Builtin.Tuple.tupleExact acc.toList.toArray >>= fun v => ret v) _ _ _
      unfold Builtin.Tuple.tupleExact
      have e : acc.toList.toArray = acc := by simp
      rw [e]
      exact wpAny_bind (wpAny_newObj_type (wpAny_pure ⟨⟨_, Heap.get?_push_size _ rfl, rfl⟩, hQ h' tk acc hk hacc⟩) (by show acc.size ≤ sizeLine; rw [hacc.1]; exact hz)))⟩))
  refine callType_codes F.called_tuple (F.typeCall_tuple_1 _) F.entry_object_init new fun obj s₁ h₁ => ?_
  refine ⟨h₁.1, F.args_object_init_2 obj _, ?_⟩
  exact object_init_meets F.called_tuple.init.lookup F.called_tuple.made (by decide) prog w A.in1 _ s₁ ⟨h₁.1, rfl, h₁.2⟩
end
def tTupRvT (K : PySem.W.Frag) (te : TE) : TE := fun σ H Q => te σ H fun v H1 => ∃ (a : Addr) (xs : List V), v = .ref a ∧ SqT K H1 a xs ∧ ∀ q, H1 q = none → Q (.ref q) (upd H1 q (.tup xs.reverse))
theorem pe_tupRvT (K : PySem.W.Frag) {X : Cx} {e : Expr} {te : TE} {p p2 pos pos2 : Pos} (calm : X.calm = true) (g1 : Gl X "tuple") (m1 : X.mg "tuple" = none) (g2 : Gl X "reversed") (m2 : X.mg "reversed" = none) (he : PE X e te) (hK : X.K = K := by rfl)
    (na : starEach [e] X.env = (false, eval e X.env) :: starEach [] X.env := by rfl)
    (nb : starEach [.Call (.Name "reversed" p2) [e] [] pos2] X.env = (false, eval (.Call (.Name "reversed" p2) [e] [] pos2) X.env) :: starEach [] X.env := by rfl) :
    PE X (.Call (.Name "tuple" p) [.Call (.Name "reversed" p2) [e] [] pos2] [] pos) (tTupRvT K te) := by
  subst hK
  refine ⟨fun pins s σ H Q I h => ?_⟩
  refine Call_ (ld_blt I g1 m1 boot_tuple (PyProof.Rows.callWith_type1 (args_cons (Call_ (ld_blt I g2 m2 PyProof.Rows.boot_reversed (PyProof.Rows.callWith_type1 (args_cons (thn (he.run pins s σ H _ I h) fun u s1 hx => args_nil ?_) na) na rfl))) nb) nb rfl))
  obtain ⟨v, H1, I1, r1, a, xs, ev, hq, q⟩ := hx
  subst ev
  obtain rfl : u = Value.ref a := r1
  obtain ⟨its, rv, ht, hz⟩ := I1.tuple hq
  have hn : its.toArray.size ≤ sizeLine := by rw [List.size_toArray, ← rv.length]; exact hz
  have big : ((its.toArray.size : Nat) : Int) < 2 ^ 63 := by
    have := hn
    rw [sizeLine_eq] at this
    omega
  refine call_reversed_tup ht (fun A E Q k => len_tuple ht big k) (args_nil ?_)
  obtain ⟨ot, hot, hot2⟩ := id ht
  have ne : a ≠ s1.heap.objs.size := Nat.ne_of_lt (Heap.lt_size hot)
  have I2 : Inv X pins σ H1 { s1 with heap := s1.heap.push (rtObj a ((its.toArray.size : Int) - 1)), toks := s1.toks + 1 + 1 } := I1.kept fun b o e => Heap.get?_push_of_some _ e
  obtain ⟨f0, f1, f2, f3, f4, f5⟩ := I1.fpOk (H' := H1) (b := s1.heap.objs.size) (Nat.le_refl _) (I1.hok.fresh (Nat.le_refl _))
  refine rv_tuple (s := { s1 with heap := s1.heap.push (rtObj a ((its.toArray.size : Int) - 1)), toks := s1.toks + 1 + 1 }) (I1.ok.hd calm) ⟨_, Heap.get?_push_size _ rfl, rfl, rfl⟩ ⟨ot, Heap.get?_push_of_some _ hot, hot2⟩ ne hn fun h' tk acc hk hi => ?_
  have I3 : Inv X pins σ H1 { s1 with heap := h', toks := tk } := I2.turned (t' := tk) (fun b o hb e => hk b o hb e) f0 f1 f3 f4 f5
  refine ⟨.ref h'.objs.size, upd H1 h'.objs.size (.tup xs.reverse), I3.laid (t' := tk) (fun c o e => Heap.get?_push_of_some _ e) (Nat.le_refl _) (show ObjOk X.prog X.w _ _ _ (.tup xs.reverse) from ⟨by rw [List.length_reverse]; exact hz, acc.toList, vals_rev rv hi, ?_⟩), rfl, q _ (I3.hok.fresh (Nat.le_refl _))⟩
  rw [Array.toArray_toList]
  exact IsTup.new _ _
end LK
/-! several clauses 'except X as n', all with one name -/
namespace LK
open PySem PySem.Spec PyProof.Rows L2
abbrev Clause := Value × (Addr → Value → Option Addr → TS)
/-- what the clauses wish, each as a clause alone, the later ones behind it -/
def wRow (K : PySem.W.Frag) (i : Nat) (Wout : WX) (D : Ends) : List Clause → WX
  | [] => Wout
  | q :: r => wAs K q.1 i q.2 (wRow K i Wout D r) D
/-- each clause has a reading -/
inductive Row (X : Cx) (n : Str) : List ExceptHandler → List Clause → Prop
  | last : Row X n [] []
  | more {x : Str} {q : Clause} {b₀ : Stmt} {bs : List Stmt} {p1 p2 : Pos} {hs : List ExceptHandler} {r : List Clause} (names : Names X x q.1) (suite : ∀ a oe cls d pn, Zc cls d oe → (∃ vs, oe.data = .fields vs) → PSs (X.suite a ((a, oe) :: pn)) (b₀ :: bs) (q.2 a cls d)) (rest : Row X n hs r) :
      Row X n (.ExceptHandler (some (.Name x p1)) (some n) (b₀ :: bs) p2 :: hs) (q :: r)
section
variable {X : Cx} {n : Str} {i : Nat} {Wout : WX} {D : Ends} {pins : List (Addr × Obj)} {σ : L2.St} {H : Hp} {sI s : Shared} {a : Addr} {cls : Value} {d : Option Addr} {B h : Heap}
/-- the clauses, one after the other, at an error that has come up -/
theorem Row.walk (nodup : X.N.Nodup) (at_ : X.N[i]? = some n) (loc : X.env.kindOf n = some .local) (stk : X.stack = X.env :: X.outer) (frame : X.env.frame = some X.env.locals) (ok : X.Ok) (out : Takes X Wout)
    (J : Inv X pins σ H sI) (ag : PyProof.Rows.AllBare s.gens) (os : s.os = sI.os) (nb : ∀ b o, sI.heap.get? b = some o → b ∉ frs X.stack → B.get? b = some o) (up : sI.heap.UpToSlots h) (fly : HandSPX.FlyingZ B (X.env :: X.outer) a (Zc cls d) h)
    (free : H a = none) (nL : a ≠ X.env.locals) (nF : a ∉ X.fs) {hs : List ExceptHandler} {r : List Clause} (R : Row X n hs r) : wRow X.K i Wout D r cls d σ H → wpAny (model X.prog X.w) X.A (handleBy (.ref a) X.env hs) (SP X pins D) X.xe { s with heap := h } := by
  have J3 : Inv X pins σ H { s with heap := h } := J.landed nb fly.1 up os ag
  obtain ⟨o3, v3, he3, hz3, hd3⟩ := fly.there
  have S3 := J3.suite he3 hd3 free nL nF
  induction R with
  | last =>
    intro w
    obtain ⟨-, -, -, oe, vs, Tr, oT, tt, he, -, hd, h1, -⟩ := id fly
    refine wpAny_handleBy_nil ?_
    unfold PySem.passOn
    refine wpAny_bind (wpAny_field he hd h1 ?_)
    have yes : ¬ ((Value.ref Tr == Value.none) = true) := fun z => by simp at z
    rw [if_neg yes]
    have fin : wpAny (model X.prog X.w) X.A (setFlight (.ref a) (some X.env.locals)) (fun _ s4 => wpAny (model X.prog X.w) X.A (throw (.ref a) : Sem Flow) (SP X pins D) X.xe s4) X.xe { s with heap := h } :=
      HandSPX.setFlight_upZ fly fun h4 hh4 up4 => wpAny_throw (out _ _ ⟨a, B, sI, pins, σ, H, cls, d, rfl, J, nb, up.trans up4, .inr (.inr (stk ▸ hh4)), free, os, ag, w⟩)
    rw [← frame] at fin
    first | exact wpAny_bind fin | exact wpAny_bind (wpAny_pure (wpAny_bind fin))
  | @more x q b₀ bs p1 p2 hs r names suite rest ih =>
    rintro ⟨b, hb, yes, no⟩
    refine wpAny_handleBy_cons (codeAny_handlers_test ?_) (fun z => by cases z)
    have meets := PySem.W.exm_one (M := model X.prog X.w) J3.kIn (fun A Q E s k q => wpAny_typeOf_ref (k _ _ he3) (by rw [hz3.1]; exact q)) hb
    have name : ∀ {Q E : Value → Shared → Prop}, Q q.1 { s with heap := h } → wpAny (model X.prog X.w) (X.A.mark (some (.ref a))) (eval (.Name x p1) X.env) Q E { s with heap := h } := fun {Q E} k => by
      rcases names with ⟨g, nd, m | ⟨m, bt, nn⟩⟩
      · exact ld_glob (X := X.suite a ((a, o3) :: (X.pn ++ pins))) S3 g m k nd
      · exact ld_blt (X := X.suite a ((a, o3) :: (X.pn ++ pins))) S3 g m bt k nn nd
    refine name (meets.here ?_)
    cases b with
    | false => exact ih (no rfl)
    | true =>
      refine codeAny_handlers_suite_as (HandSPX.lands_againZ fly fun h4 fly4 up4 => ?_)
      obtain ⟨o4, v4, he4, hz4, hd4⟩ := fly4.there
      have S4 := (J.landed (s' := { s with heap := h4 }) nb fly4.1 (up.trans up4) os ag).suite he4 hd4 free nL nF
      refine store_ok (X := X.suite a ((a, o4) :: (X.pn ++ pins))) (v := .ref a) S4 nodup at_ (.inl loc) rfl (fun s5 S5 => ?_) (.inr loc)
      have gone : ∀ {s6 : Shared} {σ6 : L2.St} {H6 : Hp} {Q : Shared → Prop}, Inv (X.suite a ((a, o4) :: (X.pn ++ pins))) [] σ6 H6 s6 → (∀ s7, Inv X pins (σ6.set i none) H6 s7 → Q s7) → wpAny (model X.prog X.w) X.A (bindName X.env n .none >>= fun _ => unbindBehindTheSuite X.env n p2) (fun _ s7 => Q s7) X.xe s6 :=
        fun S6 k => gone_ok (S6.unsuite ok) nodup at_ loc k
      refine wpAny_mono ((suite a o4 cls d (X.pn ++ pins) hz4 ⟨v4, hd4⟩).run [] s5 _ H _ S5 (yes rfl a free)) (fun f s6 w6 => ?_) (fun _ _ z => z.elim)
      match f, w6 with
      | .next, ⟨σ6, H6, S6, q6⟩ => exact gone S6 fun s7 J7 => ⟨σ6.set i none, H6, J7, q6⟩
      | .brk, ⟨σ6, H6, S6, q6⟩ => exact gone S6 fun s7 J7 => ⟨σ6.set i none, H6, J7, q6⟩
      | .cont, ⟨σ6, H6, S6, q6⟩ => exact gone S6 fun s7 J7 => ⟨σ6.set i none, H6, J7, q6⟩
      | .ret u, ⟨v6, σ6, H6, S6, r6, q6⟩ => exact gone S6 fun s7 J7 => ⟨v6, σ6.set i none, H6, J7, r6, q6⟩
end
theorem ps_try_row {X : Cx} {n : Str} {i : Nat} {body : List Stmt} {h₀ : ExceptHandler} {hds : List ExceptHandler} {r : List Clause} {pos : Pos} {tb : WX → TS} {Wout : WX} (stk : X.stack = X.env :: X.outer) (frame : X.env.frame = some X.env.locals) (nodup : X.N.Nodup) (at_ : X.N[i]? = some n) (loc : X.env.kindOf n = some .local) (out : Takes X Wout)
    (read : ∀ (W : WX) (pn : List (Addr × Obj)) (xe : Value → Shared → Prop), Takes (X.tr pn xe) W → PassesOwn (model X.prog X.w) X.A X.env xe → PSs (X.tr pn xe) body (tb W)) (R : Row X n (h₀ :: hds) r) :
    PS X (.Try body (h₀ :: hds) [] [] pos) (fun D σ H => tb (wRow X.K i Wout D r) D σ H) := by
  refine ⟨fun pins s σ H D I h => wpAny_Try_except ?_⟩
  have ok := I.ok
  have frames : X.A.frames = some (X.env :: X.outer) := by rw [ok.frames, stk]
  refine wpAny_mono ((read (wRow X.K i Wout D r) (X.pn ++ pins) (fun e s₁ => wpAny (model X.prog X.w) X.A (noteFrame e X.env) (fun _ s₂ => wpAny (model X.prog X.w) X.A (setFlight e none) (fun _ s₃ => wpAny (model X.prog X.w) X.A (handleBy e X.env (h₀ :: hds)) (SP X pins D) X.xe s₃) X.xe s₂) X.xe s₁) (fun u s' came => ?_) PassesOwn.looking).run [] s σ H D (I.toTry _) h) (fun f s1 w1 => ?_) (fun _ _ z => z)
  · obtain ⟨a, B, sI, pins', σ', H', cls, d, rfl, J', nb, up, sky, free, os, ag, w⟩ := came
    refine Sky.land Zc.steady frames frame (stk ▸ sky) fun h3 fly up3 => ?_
    obtain ⟨o3, v3, he3, -, hd3⟩ := fly.there
    have away : a ∉ frs (X.env :: X.outer) := fun m => by
      obtain ⟨_, o', e', nf⟩ := fly.2.2.1.mem m
      rw [he3] at e'
      cases e'
      exact nf _ hd3
    refine R.walk nodup at_ loc stk frame ok out (J'.ofTry ok) ag os nb (up.trans up3) fly free (fun z => away (List.mem_filterMap.mpr ⟨X.env, by simp, by rw [frame, z]⟩)) (fun m => ?_) w
    obtain ⟨e, he, q⟩ := List.mem_filterMap.mp m
    exact away (List.mem_filterMap.mpr ⟨e, by simp [he], q⟩)
  · match f, w1 with
    | .next, ⟨σ', H', J', q⟩ => exact wpAny_execs_nil ⟨σ', H', J'.ofTry ok, q⟩
    | .brk, ⟨σ', H', J', q⟩ => exact ⟨σ', H', J'.ofTry ok, q⟩
    | .cont, ⟨σ', H', J', q⟩ => exact ⟨σ', H', J'.ofTry ok, q⟩
    | .ret u, ⟨v, σ', H', J', r, q⟩ => exact ⟨v, σ', H', J'.ofTry ok, r, q⟩
end LK
/-! tuples that are known to have no dict, so that they have .index -/
namespace LK
open PySem PySem.Spec PyProof.Rows L2
/-- a tuple with no dict -/
def TN (K : PySem.W.Frag) (H : Hp) (a : Addr) (xs : List V) : Prop := SqT K H a xs ∧ DN H (.ref a)
theorem TN.same {K : PySem.W.Frag} {H H' : Hp} {a : Addr} {xs : List V} (h : TN K H a xs) (s : Same H H') : TN K H' a xs := ⟨seqT s h.1, h.2.same s⟩
theorem tn_new {K : PySem.W.Frag} {H : Hp} {p : Addr} {o : Obj} {xs : List V} (e : o.dict = none) : TN K (upd H p (.frz o (.tup xs))) p xs :=
  ⟨.inl (.inr ⟨o, upd_same⟩), fun a ea => by cases ea; exact ⟨o, _, upd_same, e⟩⟩
section
variable {X : Cx}
/-- a new tuple laid, frozen -/
theorem frz_laid {K : PySem.W.Frag} (hK : X.K = K) {pins : List (Addr × Obj)} {σ : L2.St} {H : Hp} {s : Shared} {Q : VK} {h' : Heap} {t' : Nat} {p : Addr} {its : List Value} {xs : List V} (I : Inv X pins σ H s) (k : ∀ b u, s.heap.get? b = some u → h'.get? b = some u) (hp : s.heap.objs.size ≤ p)
    (g : h'.get? p = some { cls := .type "tuple", data := .seq its.toArray }) (r : Vals xs its) (hz : xs.length ≤ sizeLine) (q : ∀ p H', Same H H' → H p = none → TN K H' p xs → Q (.ref p) H') :
    EP X pins σ Q (.ref p) { s with heap := h', toks := t' } := by
  refine ⟨.ref p, _, I.laid (t' := t') (o := .frz { cls := .type "tuple", data := .seq its.toArray } (.tup xs)) k hp ?_, rfl, q _ _ (same_upd (I.hok.fresh hp)) (I.hok.fresh hp) (tn_new rfl)⟩
  exact ⟨g, hz, its, r, _, g, rfl, _, rfl⟩
def tTupN (K : PySem.W.Frag) (t : TA) : TE := fun σ H Q => t σ H fun xs H1 => xs.length ≤ sizeLine ∧ ∀ p H', Same H1 H' → H1 p = none → TN K H' p xs → Q (.ref p) H'
theorem pe_tupN (K : PySem.W.Frag) {es : List Expr} {t : TA} {pos : Pos} {x1} (h : PA X es t) (hK : X.K = K := by rfl) : PE X (.Tuple es x1 pos) (tTupN K t) := by
  refine ⟨fun pins s σ H Q I hq => ?_⟩
  refine wpAny_Tuple_spliced (thn (h.run pos pins s σ H _ I hq) fun us s1 ⟨xs, H1, I1, r, z, q⟩ => ⟨by rw [← r.length]; exact z, ?_⟩)
  exact frz_laid hK (t' := s1.toks) I1 (fun b u e => Heap.get?_push_of_some _ e) (Nat.le_refl _) (Heap.get?_push_size _ rfl) r z q
def tTupRgN (K : PySem.W.Frag) (te : L2.St → Hp → (Int → Int → Hp → Prop) → Prop) : TE := fun σ H Q => te σ H fun a b H1 => RgOk a b ∧ ∀ p H', Same H1 H' → H1 p = none → TN K H' p (rgV a b) → Q (.ref p) H'
theorem pe_tupRgN (K : PySem.W.Frag) {e : Expr} {te : L2.St → Hp → (Int → Int → Hp → Prop) → Prop} {p pos : Pos} (hc : X.calm = true) (hg : Gl X "tuple") (hm : X.mg "tuple" = none) (he : PRg X e te) (hK : X.K = K := by rfl) (na : starEach [e] X.env = (false, eval e X.env) :: starEach [] X.env := by rfl) : PE X (.Call (.Name "tuple" p) [e] [] pos) (tTupRgN K te) := by
  refine ⟨fun pins s σ H Q I h => ?_⟩
  refine Call_ (ld_blt I hg hm boot_tuple (PyProof.Rows.callWith_type1 (args_cons (thn (he pins s σ H _ I h) fun x s1 ⟨r, a, b, t, u, v, H1, ex, hr, I1, ok, q⟩ => args_nil ?_) na) na))
  subst ex
  obtain ⟨b1, b2, b3, b4, b5⟩ := ok
  refine call_tuple_range (n := (b - a).toNat) (I1.ok.hd hc) hr (small_one b1 b2 b3 b4) (rangeSize_nat a b) b5 fun h' tk acc hk hi => ?_
  have I2 : Inv X pins σ H1 { s1 with heap := h', toks := tk } := I1.kept hk
  exact frz_laid hK (s := { s1 with heap := h', toks := tk }) (h' := h'.push { cls := .type "tuple", data := .seq acc }) (t' := tk) (its := acc.toList) I2 (fun c o e => Heap.get?_push_of_some _ e) (Nat.le_refl _) (by rw [Array.toArray_toList]; exact Heap.get?_push_size _ rfl) (vals_rg hi) (by rw [rgV_length, sizeLine_eq]; omega) q
def rCatN (K : PySem.W.Frag) : R2 := fun x y H Q => ∃ a b xs ys, x = .ref a ∧ y = .ref b ∧ TN K H a xs ∧ TN K H b ys ∧ xs.length + ys.length ≤ 2000 ∧ ∀ p H', Same H H' → TN K H' p (xs ++ ys) → Q (.ref p) H'
theorem catN (K : PySem.W.Frag) (hK : X.K = K := by rfl) : OpR X (binaryOp .Add) (rCatN K) := by
  subst hK
  intro pins s σ H x y v u Q I rx ry h
  obtain ⟨a, b, xs, ys, rfl, rfl, ha, hb, hz, q⟩ := h
  have hs : (2000 : Nat) ≤ sizeLine := by decide
  by_cases hx : xs = []
  · subst hx
    cases rx
    cases ry
    obtain ⟨its, r1, p1, _⟩ := I.tuple ha.1
    obtain ⟨its2, r2, p2, _⟩ := I.tuple hb.1
    cases r1
    exact cat_tup0 p1 p2 ⟨.ref b, H, I, rfl, q b H (Same.refl _) hb⟩
  · cases rx
    cases ry
    obtain ⟨its, r1, p1, _⟩ := I.tuple ha.1
    obtain ⟨its2, r2, p2, _⟩ := I.tuple hb.1
    refine HT.cat_tup p1 p2 (fun z => hx (r1.nil_iff.mp z)) (fun z => ⟨.ref a, H, I, rfl, ?_⟩) (fun z => ?_) (by rw [← r1.length, ← r2.length]; omega)
    · have : ys = [] := r2.nil_iff.mp z
      subst this
      exact q a H (Same.refl _) (by rw [List.append_nil]; exact ha)
    · exact frz_laid rfl (t' := s.toks) I (fun b ob q => Heap.get?_push_of_some _ q) (Nat.le_refl _) (Heap.get?_push_size _ rfl) (r1.append r2) (by rw [List.length_append]; omega) fun p H' s' _ t => q p H' s' t
def rSlN (K : PySem.W.Frag) : V → Option Int → Option Int → Hp → VK → Prop := fun x lo hi H Q => ∃ a xs, x = .ref a ∧ TN K H a xs ∧ ∀ p H', Same H H' → TN K H' p (cutV xs lo hi) → Q (.ref p) H'
theorem slN (K : PySem.W.Frag) (hK : X.K = K := by rfl) : SlR X (rSlN K) := by
  subst hK
  intro pins s σ H x v vl vu lo hi sl Q I rx hs pl pu h
  obtain ⟨a, xs, rfl, hx, q⟩ := h
  cases rx
  obtain ⟨its, r, ht, hz⟩ := I.tuple hx.1
  have hlen : its.toArray.size = xs.length := by rw [List.size_toArray]; exact r.length.symm
  refine ⟨"tuple", _, PyProof.Rows.slot_tuple_getitem.lookup, ht.typeIs, ?_⟩
  by_cases hw : HT.sIx xs.length 0 lo = 0 ∧ HT.sIx xs.length xs.length hi = xs.length
  · refine getItem_tuple_whole ht hs pl pu (by rw [hlen]; exact hw) ⟨.ref a, H, I, rfl, q a H (Same.refl _) ?_⟩
    have : cutV xs lo hi = xs := by
      unfold cutV
      rw [hw.1, hw.2]
      simp
    rw [this]
    exact hx
  · refine HT.getItem_tuple_cut ht hs pl pu (by rw [hlen]; exact hw) ?_ (by rw [hlen]; exact hz)
    rw [hlen]
    exact frz_laid rfl (t' := s.toks) I (fun b ob q => Heap.get?_push_of_some _ q) (Nat.le_refl _) (Heap.get?_push_size _ rfl) ((r.drop (HT.sIx xs.length 0 lo)).take (HT.sIx xs.length xs.length hi - HT.sIx xs.length 0 lo)) (Nat.le_trans (cutV_length xs lo hi) hz) fun p H' s' _ t => q p H' s' t
end
end LK
namespace LK
open PySem PySem.Spec PyProof.Rows L2
def tRevN (K : PySem.W.Frag) (te : TE) : TE := fun σ H Q => te σ H fun x H1 => ∃ a xs, x = .ref a ∧ SqT K H1 a xs ∧ ∀ p H', Same H1 H' → H1 p = none → TN K H' p xs.reverse → Q (.ref p) H'
theorem pe_revN {X : Cx} (K : PySem.W.Frag) {e : Expr} {te : TE} {k : Nat} {p1 p2 p3 pos : Pos} (he : PE X e te) (hK : X.K = K := by rfl) : PE X (.Subscript e (.Slice none none (some (.UnaryOp .USub (.Constant (.int 1) k p1) p2)) p3) pos) (tRevN K te) := by
  subst hK
  refine ⟨fun pins s σ H Q I h => ?_⟩
  refine Subscript_ (thn (he.run pins s σ H _ I h) fun v s1 ⟨x, H1, I1, r1, q1⟩ => ?_)
  obtain ⟨a, xs, ex, hx, q⟩ := q1
  subst ex
  cases r1
  have hst : PO X (some (.UnaryOp .USub (.Constant (.int 1) k p1) p2)) (tPart (tUn (rU fun i => .int (-i)) (tC (.int 1)))) := po_some (pe_un un_neg pe_int)
  refine wpAny_Slice (thn (po_none.run pins s1 σ H1 (fun o H2 => o = none ∧ H2 = H1) I1 ⟨rfl, rfl⟩) fun vl s2 ⟨l, H2, I2, pl, el, e2⟩ => ?_)
  subst el e2
  refine thn (po_none.run pins s2 σ H2 (fun o H3 => o = none ∧ H3 = H2) I2 ⟨rfl, rfl⟩) fun vu s3 ⟨u, H3, I3, pu, eu, e3⟩ => ?_
  subst eu e3
  refine thn (hst.run pins s3 σ H3 (fun o H4 => o = some (-1) ∧ H4 = H3) I3 ⟨1, rfl, -1, rfl, rfl, rfl⟩) fun vs s4 ⟨o, H4, I4, ps, eo, e4⟩ => ?_
  subst eo e4
  cases pl
  cases pu
  have I5 : Inv X pins σ H4 { s4 with heap := s4.heap.push { cls := .type "slice", data := .fields #[.none, .none, vs] } } := I4.kept (t' := s4.toks) fun b ob q => Heap.get?_push_of_some _ q
  obtain ⟨its, r, ht, hz⟩ := I5.tuple hx
  have hlen := r.length
  show wpAny (model X.prog X.w) X.A (subscriptTail e (.Slice none none (some (.UnaryOp .USub (.Constant (.int 1) k p1) p2)) p3) (.ref a) (.ref s4.heap.objs.size)) (EP X pins σ Q) X.xe { s4 with heap := s4.heap.push { cls := .type "slice", data := .fields #[.none, .none, vs] } }
  refine tail_any (ops := [.ref a, .ref s4.heap.objs.size]) ht.typeIs (PyProof.Rows.slot_tuple_getitem.lookup) ?_ (by with_unfolding_all rfl)
  refine getItem_tuple_rev ht (Heap.IsSliceOf.new _ .none .none vs) ps ?_ (by rw [List.size_toArray]; omega)
  exact frz_laid rfl (t' := s4.toks) I5 (fun b ob q => Heap.get?_push_of_some _ q) (Nat.le_refl _) (Heap.get?_push_size _ rfl) r.reverse (by rw [List.length_reverse]; exact hz) q
def rIxS (K : PySem.W.Frag) : R2 := fun x y H Q => rIxL K x y H Q ∨ rIxT K x y H Q
theorem ixS {X : Cx} (K : PySem.W.Frag) (hK : X.K = K := by rfl) : IxR X (rIxS K) := hK ▸ ix_list.or ix_tup
def rSrtS (K : PySem.W.Frag) : List V → Hp → VK → Prop := fun vs H Q => rSrtA K vs H Q ∨ rSortedI K vs H Q
theorem srtS {X : Cx} (K : PySem.W.Frag) (hK : X.K = K := by rfl) : CallR X (.builtin "sorted") (rSrtS K) := CallR.or (srtT K hK) (srtI K hK)
theorem maxR {X : Cx} (K : PySem.W.Frag) (hc : X.calm = true := by rfl) (hK : X.K = K := by rfl) : CallR X (.builtin "max") (rMax K) := hK ▸ cr_max hc
/-- what the law hands on: a tuple of ints with .index -/
def TI (K : PySem.W.Frag) (H : Hp) (a : Addr) (ns : List Int) : Prop := TN K H a (ns.map V.int) ∧ ns.length ≤ 1000
theorem TI.same {K : PySem.W.Frag} {H H' : Hp} {a : Addr} {ns : List Int} (h : TI K H a ns) (s : Same H H') : TI K H' a ns := ⟨h.1.same s, h.2⟩
theorem TI.rp {K : PySem.W.Frag} {H : Hp} {a : Addr} {ns : List Int} (h : TI K H a ns) : Rp K H (.ref a) (dTup ns) := TupI.rp ⟨h.1.1, h.2⟩
theorem TN.hide {K : PySem.W.Frag} {H : Hp} {S p a : Addr} {xs : List V} (st : StOk H S p) (h : TN K H a xs) : TN K (hide S H) a xs := by
  obtain ⟨zs, e⟩ := st.atS
  refine ⟨seqT_hide e h.1, fun b eb => ?_⟩
  obtain ⟨o, u, h1, h2⟩ := h.2 b eb
  refine ⟨o, u, ?_, h2⟩
  rw [hide_ne]
  · exact h1
  · intro z
    rw [z, e] at h1
    cases h1
theorem TI.hide {K : PySem.W.Frag} {H : Hp} {S p a : Addr} {ns : List Int} (st : StOk H S p) (h : TI K H a ns) : TI K (hide S H) a ns := ⟨h.1.hide st, h.2⟩
theorem TI.show {K : PySem.W.Frag} {H : Hp} {S a : Addr} {ns : List Int} (h : TI K (LK.hide S H) a ns) : TI K H a ns := h.same (hide_same S H)
theorem TN.show {K : PySem.W.Frag} {H : Hp} {S a : Addr} {ns : List V} (h : TN K (LK.hide S H) a ns) : TN K H a ns := h.same (hide_same S H)
theorem Mv.ti {K : PySem.W.Frag} {S p a : Addr} {H H' : Hp} {ns : List Int} (m : Mv S p H H') (h : TI K (LK.hide S H) a ns) : TI K (LK.hide S H') a ns := h.same m.same
end LK
/-! a row in a list or a tuple of rows; sorted rows that keep what they are -/
namespace LK
open PySem PySem.Spec PyProof.Rows L2
theorem shaped_rowsL (T : List (List Int)) : SeqAt.shaped (.list (T.map dTup)) = true := by
  have h1 : PyData.canLay0 (.list (T.map dTup)) = true := canLay_rows T
  have h2 : PyData.depth (.list (T.map dTup)) ≤ 2 := by
    have := depth_rows T
    rw [PyData.depth]
    omega
  unfold SeqAt.shaped
  rw [h1, Bool.true_and]
  exact decide_eq_true (by omega)
def rInRL (K : PySem.W.Frag) (neg : Bool) : R2 := fun x y H Q => ∃ (r : List Int) (T : List (List Int)), Rp K H x (dTup r) ∧ Rp K H y (.list (T.map dTup)) ∧ Q (.bl (if neg then !decide (r ∈ T) else decide (r ∈ T))) H
theorem inRL {X : Cx} (K : PySem.W.Frag) (hu : X.A.units + 65 < cLine) (hK : X.K = K := by rfl) : OpR X (compareOp .In) (rInRL K false) := by
  subst hK
  intro pn st σ H x y v u Q I r1 r2 ⟨r, T, hd, he, q⟩
  refine op_inD hu pn st σ H x y v u Q I r1 r2 ⟨_, _, hd.dp, he.dp, shaped_row r, shaped_rowsL T, ?_⟩
  rw [any_rowsB]
  exact q
theorem notInRL {X : Cx} (K : PySem.W.Frag) (hu : X.A.units + 65 < cLine) (hK : X.K = K := by rfl) : OpR X (compareOp .NotIn) (rInRL K true) := by
  subst hK
  intro pn st σ H x y v u Q I r1 r2 ⟨r, T, hd, he, q⟩
  refine op_notInD hu pn st σ H x y v u Q I r1 r2 ⟨_, _, hd.dp, he.dp, shaped_row r, shaped_rowsL T, ?_⟩
  rw [any_rowsB]
  exact q
def rInE (K : PySem.W.Frag) (neg : Bool) : R2 := fun x y H Q => rInR K neg x y H Q ∨ rInRL K neg x y H Q
theorem inE {X : Cx} (K : PySem.W.Frag) (hu : X.A.units + 65 < cLine) (hK : X.K = K := by rfl) : OpR X (compareOp .In) (rInE K false) := (inR K hu hK).or (inRL K hu hK)
theorem notInE {X : Cx} (K : PySem.W.Frag) (hu : X.A.units + 65 < cLine) (hK : X.K = K := by rfl) : OpR X (compareOp .NotIn) (rInE K true) := (notInR K hu hK).or (notInRL K hu hK)
/-- rows of ints, each with .index -/
structure RowsN (K : PySem.W.Frag) (H : Hp) (xs : List V) (S : List (List Int)) : Prop where
  len : xs.length = S.length
  at_ : ∀ (i : Nat) (x : V), xs[i]? = some x → ∃ a, x = .ref a ∧ TI K H a (S.getD i [])
variable {K : PySem.W.Frag} {H H' : Hp} {xs ys : List V} {S T : List (List Int)}
theorem RowsN.nil : RowsN K H [] [] := ⟨rfl, fun i x h => by simp at h⟩
theorem RowsN.same (r : RowsN K H xs S) (s : Same H H') : RowsN K H' xs S := ⟨r.len, fun i x h => by
  obtain ⟨a, e, t⟩ := r.at_ i x h
  exact ⟨a, e, t.same s⟩⟩
theorem RowsN.push (r : RowsN K H xs S) {a : Addr} {ns : List Int} (t : TI K H a ns) : RowsN K H (xs ++ [.ref a]) (S ++ [ns]) := by
  refine ⟨by rw [List.length_append, List.length_append, r.len]; rfl, fun i x h => ?_⟩
  by_cases c : i < xs.length
  · rw [List.getElem?_append_left c] at h
    obtain ⟨b, e, tb⟩ := r.at_ i x h
    refine ⟨b, e, ?_⟩
    rw [List.getD_eq_getElem?_getD, List.getElem?_append_left (by rw [← r.len]; exact c), ← List.getD_eq_getElem?_getD]
    exact tb
  · rw [List.getElem?_append_right (by omega)] at h
    have hi : i - xs.length = 0 := by
      have := (List.getElem?_eq_some_iff.mp h).1
      rw [List.length_singleton] at this
      omega
    rw [hi] at h
    have h := Option.some.inj h
    refine ⟨a, h.symm, ?_⟩
    rw [List.getD_eq_getElem?_getD, List.getElem?_append_right (by rw [← r.len]; omega), ← r.len, hi]
    exact t
theorem RowsN.tail {x : V} {s : List Int} (r : RowsN K H (x :: xs) (s :: S)) : RowsN K H xs S := ⟨by have := r.len; simp only [List.length_cons] at this; omega, fun i y h => r.at_ (i + 1) y (by rw [List.getElem?_cons_succ]; exact h)⟩
theorem RowsN.rp : ∀ {xs : List V} {S : List (List Int)}, RowsN K H xs S → RpAll K H xs (S.map dTup)
  | [], [], _ => .nil
  | x :: xs, s :: S, r => by
    obtain ⟨a, e, t⟩ := r.at_ 0 x rfl
    subst e
    exact .cons t.rp r.tail.rp
  | [], s :: S, r => by have := r.len; simp at this
  | x :: xs, [], r => by have := r.len; simp at this
theorem RowsN.hide {S0 p : Addr} (st : StOk H S0 p) (r : RowsN K H xs S) : RowsN K (LK.hide S0 H) xs S := ⟨r.len, fun i x h => by
  obtain ⟨a, e, t⟩ := r.at_ i x h
  exact ⟨a, e, t.hide st⟩⟩
theorem RowsN.show {S0 : Addr} (r : RowsN K (LK.hide S0 H) xs S) : RowsN K H xs S := r.same (hide_same S0 H)
theorem RowsN.getN (r : RowsN K H xs S) {i : Nat} {x : V} (h : xs[i]? = some x) : ∃ ns a, S[i]? = some ns ∧ S.getD i [] = ns ∧ x = .ref a ∧ TI K H a ns := by
  obtain ⟨a, e, t⟩ := r.at_ i x h
  have hl : i < S.length := by rw [← r.len]; exact (List.getElem?_eq_some_iff.mp h).1
  exact ⟨_, a, by rw [List.getElem?_eq_getElem hl, List.getD_eq_getElem?_getD, List.getElem?_eq_getElem hl]; rfl, rfl, e, t⟩
/-- the same values in another sequence: each still has .index -/
theorem RowsN.perm {xs ys : List V} {S T : List (List Int)} (r : RowsN K H xs S) (p : ys.Perm xs) (q : RpAll K H ys (T.map dTup)) : RowsN K H ys T := by
  refine ⟨by rw [q.length, List.length_map], fun i x h => ?_⟩
  obtain ⟨ns, a, hn, e, t⟩ := q.row h
  subst e
  obtain ⟨j, hj, ej⟩ := List.getElem_of_mem (p.mem_iff.mp (List.mem_of_getElem? h))
  obtain ⟨b, eb, tb⟩ := r.at_ j _ (by rw [List.getElem?_eq_getElem hj])
  rw [ej] at eb
  have eb : a = b := by injection eb
  subst eb
  have en : T.getD i [] = ns := by rw [List.getD_eq_getElem?_getD, hn]; rfl
  rw [en]
  exact ⟨a, rfl, ⟨⟨t.1, tb.1.2⟩, t.2⟩⟩
def rSrtN (K : PySem.W.Frag) : List V → Hp → VK → Prop := fun vs H Q => ∃ (a : Addr) (xs : List V) (T : List (List Int)), vs = [V.ref a] ∧ SqL K H a xs ∧ RowsN K H xs T ∧ (∀ r ∈ T, r ≠ []) ∧
  ∀ (ys : List V) (p : Addr), RowsN K H ys (srtRows T) → H p = none → Q (.ref p) (upd H p (.lst ys))
theorem srtN {X : Cx} (K : PySem.W.Frag) (hu : X.A.units + 65 < cLine) (hK : X.K = K := by rfl) : CallR X (.builtin "sorted") (rSrtN K) := by
  subst hK
  intro pins s σ H vs us Q I r h
  obtain ⟨a, xs, T, rfl, hs, hxn, hne, q⟩ := h
  obtain ⟨its, rv, hl, hz⟩ := I.list hs
  rw [Vals.ref1 r]
  obtain ⟨bs, e1, e2, hb⟩ := zipped hxn.rp
  subst e1
  have each := vals_each rv
  refine PySem.W.sorted_data (R := fun v (b : V × List Int) => RelV b.1 v) (enc := fun b => dTup b.2) hl.isList each (each_reads I each hb) (PySem.W.AllAlike.of fun b b' => alike_tups _ _) (.inl fun d hd => ?_) (by have := rv.length; rw [List.length_map] at this hz; exact hz) (fun b m => ?_) fun out h1 h2 => ?_
  · obtain ⟨b, m, rfl⟩ := List.mem_map.mp hd
    have := hne b.2 (by rw [← e2]; exact List.mem_map.mpr ⟨b, m, rfl⟩)
    cases e : b.2 with
    | nil => exact absurd e this
    | cons x rs => exact ⟨.int x, rs.map .int, rfl⟩
  · have := depth_tup b.2
    show X.A.units + 2 + (dTup b.2).depth < cLine
    omega
  · obtain ⟨ep, he⟩ := PyProof.Rows.sortedAll_at s.heap its out.toArray
    have p := List.mergeSort_perm bs (PySem.W.dataLe false fun b => dTup b.2)
    have ev := each_vals h2
    have hb2 : ∀ b ∈ bs.mergeSort (PySem.W.dataLe false fun b => dTup b.2), Rp X.K H b.1 (dTup b.2) := fun b m => hb b (p.mem_iff.mp m)
    have es : (bs.mergeSort (PySem.W.dataLe false fun b => dTup b.2)).map (·.2) = srtRows T := by
      rw [← e2]
      refine PySem.W.sort_maps (fun b : V × List Int => b.2) fun a ha b hb => ?_
      rw [dataLe_tups (fun b : V × List Int => b.2)]
    have rr := rp_zip hb2
    rw [es] at rr
    have pm : ((bs.mergeSort (PySem.W.dataLe false fun b => dTup b.2)).map (·.1)).Perm (bs.map (·.1)) := p.map _
    generalize (bs.mergeSort (PySem.W.dataLe false fun b => dTup b.2)).map (·.1) = ys at ev rr pm
    refine ⟨.ref _, upd H (s.heap.objs.size + 1) (.lst ys), I.laid (t' := s.toks) (fun _ _ => PyProof.Rows.sortedAll_old) (Nat.le_succ _) ⟨by rw [pm.length_eq]; exact hz, out, ep, ev, he⟩, rfl, q _ _ (hxn.perm pm rr) (I.hok.fresh (Nat.le_succ _))⟩
end LK
namespace LK
open PySem PySem.Spec PyProof.Rows L2
def cdT (t : List Int) : Int := TS.code 64 t
def srtP (T : List (List Int)) : List (List Int) := T.mergeSort fun a b => decide (cdT a ≤ cdT b)
theorem srtP_eq {T T' : List (List Int)} (p : T'.Perm T) (h : T'.Pairwise fun a b => cdT a ≤ cdT b) (inj : ∀ a ∈ T, ∀ b ∈ T, cdT a = cdT b → a = b) : T' = srtP T := by
  refine List.Perm.eq_of_pairwise (le := fun a b => cdT a ≤ cdT b) (fun a b ha hb h1 h2 => inj a (p.mem_iff.mp ha) b ?_ (by omega)) h ?_ (p.trans (List.mergeSort_perm _ _).symm)
  · exact (List.mergeSort_perm _ _).mem_iff.mp hb
  · have := List.pairwise_mergeSort (le := fun a b => decide (cdT a ≤ cdT b)) (fun a b c h1 h2 => by simp at *; omega) (fun a b => by simp; omega) T
    exact this.imp fun h => by simpa using h
theorem code_two (a b : Int) : cdT [a, b] = a * 64 + b := by
  unfold cdT
  simp [TS.code]
theorem ties_up {n : Int} {rows : List (List Int)} (h : n ≤ 64) : (tiesL n rows).Pairwise fun a b => cdT a < cdT b := by
  unfold tiesL
  rw [List.pairwise_flatMap]
  refine ⟨fun x _ => ?_, List.pairwise_lt_range.imp fun {x x'} hx t ht u hu => ?_⟩
  · unfold tiesAt nearN
    rw [List.pairwise_map]
    refine List.Pairwise.filter _ (List.Pairwise.filter _ (List.pairwise_lt_range.imp fun {y y'} hy => ?_))
    rw [code_two, code_two]
    omega
  · unfold tiesAt at ht hu
    obtain ⟨y, hy, rfl⟩ := List.mem_map.mp ht
    obtain ⟨y', hy', rfl⟩ := List.mem_map.mp hu
    have := List.mem_range.mp (List.mem_filter.mp (List.mem_filter.mp hy).1).1
    rw [code_two, code_two]
    omega
theorem keyed {K : PySem.W.Frag} {H : Hp} : ∀ {T : List (List Int)} {ys : List V}, RpAll K H ys (T.map dTup) → ∃ ks : List (Addr × List Int), ys = ks.map (fun q => V.ref q.1) ∧ ks.map (·.2) = T ∧ ∀ q ∈ ks, TupI K H q.1 q.2
  | [], _, h => by cases h; exact ⟨[], rfl, rfl, fun q hq => by cases hq⟩
  | t :: T, _, h => by
    cases h with
    | cons a r =>
      obtain ⟨ks, e1, e2, h3⟩ := keyed r
      obtain ⟨p, rfl, hp⟩ := a.tupI
      refine ⟨(p, t) :: ks, by rw [e1]; rfl, by rw [List.map_cons, e2], fun q m => ?_⟩
      rcases List.mem_cons.mp m with z | z
      · rw [z]; exact hp
      · exact h3 q z
theorem rp_keyed {K : PySem.W.Frag} {H : Hp} : ∀ {ks : List (Addr × List Int)}, (∀ q ∈ ks, TupI K H q.1 q.2) → RpAll K H (ks.map fun q => V.ref q.1) ((ks.map (·.2)).map dTup)
  | [], _ => .nil
  | q :: ks, h => .cons (h q List.mem_cons_self).rp (rp_keyed fun r hr => h r (List.mem_cons_of_mem _ hr))
theorem flat_ties {n : Int} {rows : List (List Int)} (hin : RowsIn n rows) {t : List Int} : t ∈ rows.flatMap pairsL ↔ t ∈ tiesL n rows := by
  rw [List.mem_flatMap]
  constructor
  · rintro ⟨r, hr, h⟩
    obtain ⟨x, hx, y, hy, lt, rfl⟩ := pairsL_mem.mp h
    obtain ⟨x0, x1⟩ := hin r hr x hx
    obtain ⟨y0, y1⟩ := hin r hr y hy
    have e1 : x = (x.toNat : Int) := by omega
    have e2 : y = (y.toNat : Int) := by omega
    rw [e1, e2]
    refine in_tiesL (by omega) (by omega) ?_
    rw [← e1, ← e2]
    exact tiedB_iff.mpr ⟨r, hr, hx, hy⟩
  · intro h
    obtain ⟨lo, hi, rfl, lt, _, tt⟩ := tiesL_in h
    obtain ⟨r, hr, hx, hy⟩ := tiedB_iff.mp tt
    exact ⟨r, hr, pairsL_mem.mpr ⟨lo, hx, hi, hy, by omega, rfl⟩⟩
theorem asc_ext {l m : List Int} (h1 : l.Pairwise (· < ·)) (h2 : m.Pairwise (· < ·)) (h : ∀ x, x ∈ l ↔ x ∈ m) : l = m := by
  have n1 : l.Nodup := h1.imp fun h => by omega
  have n2 : m.Nodup := h2.imp fun h => by omega
  have pm := (List.perm_ext_iff_of_nodup n1 n2).mpr h
  exact List.Perm.eq_of_pairwise (le := fun a b : Int => a ≤ b) (fun a b _ _ h1 h2 => by omega) (h1.imp fun h => by omega) (h2.imp fun h => by omega) pm
theorem btw_rg {n : Int} {rows : List (List Int)} (hin : RowsIn n rows) {lo hi : Nat} (lt : lo < hi) (hn : (hi : Int) < n) :
    ((List.range ((hi : Int) - ((lo : Int) + 1)).toNat).filter fun m => decide ([(lo : Int), (lo : Int) + 1 + (m : Nat)] ∈ rows.flatMap pairsL) && decide ([(lo : Int) + 1 + (m : Nat), (hi : Int)] ∈ rows.flatMap pairsL)).map (fun m : Nat => (lo : Int) + 1 + (m : Nat)) = btw n rows lo hi := by
  have tie : ∀ x y : Int, 0 ≤ x → x < y → y < n → ([x, y] ∈ rows.flatMap pairsL ↔ tiedB rows x y = true) := fun x y h0 h1 h2 => by
    have e1 : x = (x.toNat : Int) := by omega
    have e2 : y = (y.toNat : Int) := by omega
    rw [flat_ties hin]
    constructor
    · intro h
      obtain ⟨a, b, e, _, _, t⟩ := tiesL_in h
      injection e with ea e
      injection e with eb _
      rw [ea, eb]
      exact t
    · intro h
      rw [e1, e2] at h ⊢
      exact in_tiesL (by omega) (by omega) h
  refine asc_ext ?_ (btw_pw n rows _ _) fun x => ?_
  · rw [List.pairwise_map]
    exact (List.pairwise_lt_range.filter _).imp fun h => by omega
  · rw [List.mem_map]
    constructor
    · rintro ⟨m, hm, rfl⟩
      obtain ⟨h1, h2⟩ := List.mem_filter.mp hm
      have h1 := List.mem_range.mp h1
      rw [Bool.and_eq_true, decide_eq_true_eq, decide_eq_true_eq, tie _ _ (by omega) (by omega) (by omega), tie _ _ (by omega) (by omega) (by omega)] at h2
      exact btw_mem.mpr ⟨by omega, by omega, by omega, by omega, h2.1, tiedB_symm h2.2⟩
    · intro h
      obtain ⟨h1, h2, h3, h4, t1, t2⟩ := btw_mem.mp h
      have ex : (lo : Int) + 1 + ((x - (lo + 1)).toNat : Nat) = x := by omega
      refine ⟨(x - (lo + 1)).toNat, List.mem_filter.mpr ⟨List.mem_range.mpr (by omega), ?_⟩, ex⟩
      rw [Bool.and_eq_true, decide_eq_true_eq, decide_eq_true_eq, ex, tie _ _ (by omega) (by omega) (by omega), tie _ _ (by omega) (by omega) (by omega)]
      exact ⟨t1, tiedB_symm t2⟩
end LK
namespace LK
open PySem PySem.Spec PyProof.Rows L2
/-- what lies between, told for each tie: the keys of the dict -/
def midKeys (n : Int) (rows : List (List Int)) : List (Int × Int) := (tiesL n rows).map fun t => (t.getD 0 0, t.getD 1 0)
structure MidsAt (K : PySem.W.Frag) (P : Program) (w : World) (H : Hp) (d : Addr) (n : Int) (rows : List (List Int)) (ks : KDs (Int × Int)) : Prop where
  at_ : H d = some (KdO pairK P w d ks)
  keys : ks.map (·.2.1) = midKeys n rows
  kk : KdKeys pairK K H ks
  vals : ∀ a b : Int, (a, b) ∈ midKeys n rows → ∃ p, kdGet ks (a, b) = some (.ref p) ∧ TupI K H p (btw n rows a b)
theorem sqt_ext {K : PySem.W.Frag} {H : Hp} {d a : Addr} {xs : List V} {φ : Heap → Prop} (e : H d = some (.ext φ)) (h : SqT K H a xs) : SqT K (hide d H) a xs := by
  rcases h with h | h
  · refine .inl (rd_hide ?_ h)
    rintro rfl
    rcases h with h | ⟨f, h⟩
    · rw [e] at h
      cases h
    · rw [e] at h
      cases h
  · exact .inr h
theorem kd_new {α : Type} [DecidableEq α] {ks : KDs α} {a : Addr} {T : α} {v : V} (h : T ∉ ks.map (·.2.1)) : kdPut ks a T v = ks ++ [(a, T, v)] := by
  have e : kdGet ks T = none := by
    unfold kdGet
    have : ks.find? (fun e => decide (e.2.1 = T)) = none := by
      rw [List.find?_eq_none]
      intro e he z
      exact h (List.mem_map.mpr ⟨e, he, by simpa using z⟩)
    rw [this]
    rfl
  unfold kdPut
  rw [e]
  rfl
def spBetweens (K : PySem.W.Frag) (P : Program) (w : World) : Sp := fun vs H Q _ => ∃ (v : V) (n : Int) (rows B : List (List Int)), vs = [v] ∧ Rp K H v (bookD n rows) ∧ BookW n rows B ∧ ∀ d ks H', Same H H' → H d = none → MidsAt K P w H' d n rows ks → Q (.ref d) H'
section
variable {P : Program} {w : World} {K : PySem.W.Frag} {mg : Str → Option Value} {base : Heap} {ad : Nat → Addr} {fd : Nat → FuncData}
theorem ok__law_betweens (T : Txt K mg ad fd) : FnOk P w K mg base CX0 2 (ad 45) (fd 45) ["_law_book"] (spBetweens K P w) := by
  refine T.F__law_betweens.ok sc__law_betweens (fun vs H Q E h => ?_) (fun cdv A outer s H vs Q E hr h => ?_)
  · obtain ⟨v, n, rows, B, rfl, _⟩ := h
    rfl
  · obtain ⟨v, n, rows, B, rfl, hv, hB, k⟩ := h
    refine ⟨_, (pss_cons (ps_set (i := 1) sc__law_betweens.nd rfl (Or.inr rfl) (pe_lst pa_nil))
  (pss_cons (ps_for PassesOwn.never rfl (piT K (pe_ix (ixT K) (pv 0) pe_int (fun _ _ => rfl))) (pg_name (i := 2) (x := "_law_part") sc__law_betweens.nd rfl (Or.inl rfl))
  (pss_one (ps_for PassesOwn.never rfl (piT K (pv 2)) (pg_name (i := 5) (x := "_law_x") sc__law_betweens.nd rfl (Or.inr rfl))
  (pss_one (ps_set (i := 1) sc__law_betweens.nd rfl (Or.inr rfl) (pe_op (catL K) (pv 1) (pe_lc (own := [("_law_y", 8)]) (g := gName 8) rfl sc__law_betweens.nd (piT K (pv 2)) (blkOk_by (N := ["_law_book", "_law_tied", "_law_part", "_law_mids", "_law_tie", "_law_x", "_law_inner", "_law_w", "_law_y"]) (sc := defScope s__law_betweens) (by decide +kernel)) (fun _ _ _ _ _ => (pg_name (i := 8) (x := "_law_y") sc__law_betweens.nd rfl (Or.inl rfl))) (fun _ _ _ _ _ => (pts_one (pt_cmpR op_lt (pv 5) (pv 8) (nomark _)))) (fun _ _ _ _ _ => (pe_tup (pa_cons (pv 5) (pa_cons (pv 8) pa_nil)))))))))))
  (pss_cons (ps_set (i := 3) sc__law_betweens.nd rfl (Or.inl rfl) (pe_dnewKd pairK P w))
  (pss_cons (ps_for PassesOwn.never rfl (piL K (pe_callB (srtST K P w) (by rfl) T.g_sorted (by decide +kernel) (pa_cons (pe_callTy (setPT K P w (hu65 hr)) (by rfl) T.g_set (by decide +kernel) (pa_cons (pv 1) pa_nil)) pa_nil))) (pg_name (i := 4) (x := "_law_tie") sc__law_betweens.nd rfl (Or.inr rfl))
  (pss_cons (ps_setLc (i := 6) (own := [("_law_w", 7)]) (g := gName 7) rfl sc__law_betweens.nd rfl rfl (sw_true rfl rfl rfl (by decide +kernel)) (pi_range2 rfl T.g_range (pa_cons (pe_op op_add (pe_ix (ixT K) (pv 4) pe_int (fun _ _ => rfl)) pe_int) (pa_cons (pe_ix (ixT K) (pv 4) pe_int (fun _ _ => rfl)) pa_nil))) (blkOk_by (N := ["_law_book", "_law_tied", "_law_part", "_law_mids", "_law_tie", "_law_x", "_law_inner", "_law_w", "_law_y"]) (sc := defScope s__law_betweens) (by decide +kernel)) (fun _ _ _ _ _ => (pg_name (i := 7) (x := "_law_w") sc__law_betweens.nd rfl (Or.inl rfl))) (fun _ _ _ _ _ => (pts_one (PW.pt (pw_and (pt_cmpR (inE K (hu65 hr)) (pe_tup (pa_cons (pe_ix (ixT K) (pv 4) pe_int (fun _ _ => rfl)) (pa_cons (pv 7) pa_nil))) (pv 1) (by with_unfolding_all rfl)) (pw_and1 (pt_cmpR (inE K (hu65 hr)) (pe_tup (pa_cons (pv 7) (pa_cons (pe_ix (ixT K) (pv 4) pe_int (fun _ _ => rfl)) pa_nil))) (pv 1) (by with_unfolding_all rfl))))))) (fun _ _ _ _ _ => (pv 7)))
  (pss_one (ps_kdput pairK K P w (hu65 hr) (pv 3) (pv 4) (pe_callTy (tupOf K) (by rfl) T.g_tuple (by decide +kernel) (pa_cons (pv 6) pa_nil)) rfl))))
  (pss_one (ps_ret (pv 3))))))), ?_⟩
    obtain ⟨b, bs, rfl, hb, _, rb⟩ := hv.tupA
    obtain ⟨v0, v1, d0, d1, ebs, eds, r0, r1⟩ := rb.len2 (by rw [rb.length]; rfl)
    subst ebs
    injection eds with e0 eds
    injection eds with e1 eds
    subst e0 e1
    obtain ⟨L, ls, rfl, hL, lL, rL⟩ := r1.tupA
    have lls := rL.length
    rw [List.length_map] at lls
    refine ⟨(by show 0 ≤ sizeLine; decide), fun D hD => ?_⟩
    have sD := same_upd (o := .lst []) hD
    let pre : Nat → List (List Int) := fun i => (rows.take i).flatMap pairsL
    have preL : ∀ i, (pre i).length ≤ (rows.flatMap pairsL).length := fun i => by
      show ((rows.take i).flatMap pairsL).length ≤ _
      have e : rows.flatMap pairsL = (rows.take i).flatMap pairsL ++ (rows.drop i).flatMap pairsL := by
        rw [← List.flatMap_append, List.take_append_drop]
      rw [e, List.length_append]
      omega
    have hprs := hB.prs
    refine ⟨_, rfl, b, _, 1, _, rfl, rfl, seqT sD hb, rfl, ?_⟩
    refine ⟨L, rfl, ⟨_, seqT sD hL⟩, for_tup (K := K) (a := L) (xs := ls) (fun i σ H1 => ∃ (Pq : Addr) (ps : List V) (v2 v5 : Option V), σ = [some (.ref b), some (.ref Pq), v2, none, none, v5, none, none, none] ∧ Same H H1 ∧ SqL K H1 Pq ps ∧ RpAll K H1 ps ((pre i).map dTup)) ⟨D, [], _, _, rfl, sD, SqL.of upd_same, .nil⟩ (fun i σ H1 _ ⟨_, _, _, _, _, s1, _⟩ => seqT s1 hL) (fun i x σ H1 hx ⟨Pq, ps, v2, v5, e, s1, hP, rp⟩ => ?_) (fun σ H1 ⟨Pq, ps, v2, v5, e, s1, hP, rp⟩ => ?_)⟩
    · subst e
      obtain ⟨r, c, hr2, rfl, tc⟩ := rL.row hx
      have lr := hB.len r (List.mem_of_getElem? hr2)
      have eP : pre (i + 1) = pre i ++ pairsL r := by
        show (rows.take (i + 1)).flatMap _ = _
        rw [List.take_succ, hr2, List.flatMap_append]
        congr 1
        exact List.flatMap_singleton _ _
      have pl := preL (i + 1)
      rw [eP, List.length_append] at pl
      have ptl : ∀ j, (pairsTo r j).length ≤ 36 := fun j => by
        have h1 := pairs_len r (r.take j)
        have h2 : (r.take j).length ≤ 6 := by rw [List.length_take]; omega
        have h3 : (r.take j).length * r.length ≤ 6 * 6 := Nat.mul_le_mul h2 lr
        unfold pairsTo
        omega
      refine ⟨_, rfl, c, rfl, ⟨_, seqT s1 tc.1⟩, for_tup (K := K) (a := c) (xs := r.map V.int) (fun j σ H2 => ∃ (Pq : Addr) (ps : List V) (v5 : Option V), σ = [some (.ref b), some (.ref Pq), some (.ref c), none, none, v5, none, none, none] ∧ Same H H2 ∧ SqL K H2 Pq ps ∧ RpAll K H2 ps ((pre i ++ pairsTo r j).map dTup)) ⟨Pq, ps, _, rfl, s1, hP, by show RpAll K H1 ps ((pre i ++ []).map dTup); rw [List.append_nil]; exact rp⟩ (fun j σ H2 _ ⟨_, _, _, _, s2, _⟩ => seqT s2 tc.1) (fun j z σ H2 hz ⟨Pq, ps, v5, e, s2, hP, rp⟩ => ?_) (fun σ H2 ⟨Pq, ps, v5, e, s2, hP, rp⟩ => ?_)⟩
      · subst e
        obtain ⟨a, hxa, rfl⟩ := intAt hz
        refine ⟨_, rfl, _, rfl, c, rfl, ⟨_, seqT s2 tc.1⟩, fun D3 hD3 => ?_⟩
        refine lcT (K := K) (xs := r.map V.int) (fun m => decide (a < r.getD m 0)) (fun m => dTup [a, r.getD m 0]) hD3 (seqT s2 tc.1) (by rw [List.length_map]; omega) (fun _ _ _ => noL_dTup _) (fun m z H3 hj s3 Q1 Q2 k1 k2 => ?_) (fun zs H3 s3 hz3 rz => ?_)
        · obtain ⟨y, hy, rfl⟩ := intAt hj
          have eb : r.getD m 0 = y := by rw [List.getD_eq_getElem?_getD, hy]; rfl
          rw [eb] at k1 k2
          refine ⟨rfl, _, rfl, _, rfl, _, _, rfl, rfl, _, rfl, ?_⟩
          show if decide (a < y) = true then _ else _
          cases cc : decide (a < y) with
          | false => exact iteF (k2 cc _ (Same.refl _))
          | true =>
            refine iteT ⟨_, rfl, _, rfl, (by show 2 ≤ sizeLine; decide), fun q hq => ?_⟩
            have sq := same_upd (o := .tup [V.int a, .int y]) hq
            exact k1 cc _ _ sq (TupI.rp ⟨SqT.of upd_same, by show 2 ≤ 1000; decide⟩)
        · rw [List.length_map, filter_map_range (fun y : Int => decide (a < y)) (fun y : Int => dTup [a, y]) 0 r] at rz
          have lz := rz.length
          rw [List.length_map] at lz
          have lf := List.length_filter_le (fun y : Int => decide (a < y)) r
          have lps := rp.length
          rw [List.length_map, List.length_append] at lps
          have lpi := ptl j
          have lpr := preL i
          refine ⟨Pq, D3, _, _, rfl, rfl, s3.seq hP, SqL.of hz3, by omega, fun q hq => ?_⟩
          have sq := same_upd (o := .lst (ps ++ zs)) hq
          refine ⟨q, ps ++ zs, _, rfl, (s2.trans s3).trans sq, SqL.of upd_same, ?_⟩
          have eQ : pairsTo r (j + 1) = pairsTo r j ++ (r.filter fun y => decide (a < y)).map fun y => [a, y] := by
            unfold pairsTo
            rw [List.take_succ, hxa, List.flatMap_append]
            congr 1
            exact List.flatMap_singleton _ _
          rw [eQ, ← List.append_assoc, List.map_append (l₁ := pre i ++ pairsTo r j), List.map_map]
          exact (rp.same (s3.trans sq)).app (rz.same sq)
      · subst e
        rw [List.length_map, pairsTo_all, ← eP] at rp
        exact ⟨Pq, ps, _, _, rfl, s2, hP, rp⟩
    · subst e
      have ep : pre ls.length = rows.flatMap pairsL := by
        show (rows.take ls.length).flatMap _ = _
        rw [lls, List.take_length]
      rw [ep] at rp
      have lps := rp.length
      rw [List.length_map] at lps
      -- the dict
      refine fun d hd => ?_
      have sd := same_upd (o := KdO pairK P w d []) hd
      have gd : upd H1 d (KdO pairK P w d []) d = some (KdO pairK P w d []) := upd_same
      have hd0 : H d = none := by
        cases e : H d with
        | none => rfl
        | some u => exact absurd ((s1 _ _ e).symm.trans hd) (by simp)
      have s02 := s1.trans sd
      have hP2 := sd.seq hP
      have rp2 := rp.same sd
      generalize upd H1 d (KdO pairK P w d []) = H2 at sd gd s02 hP2 rp2 ⊢
      have rpq : Rp K H1 (.ref Pq) (.list ((rows.flatMap pairsL).map dTup)) := .lst hP (by omega) rp
      obtain ⟨ks, eks, ek, hk⟩ := keyed rp
      rw [eks] at hP2
      have inT : ∀ q ∈ ks, q.2 ∈ tiesL n rows := fun q hq => (flat_ties hB.inn).mp (by rw [← ek]; exact List.mem_map.mpr ⟨q, hq, rfl⟩)
      have few : Few ks := fun L hL nd => by
        have := nodup_leG nd (m := tiesL n rows) fun t ht => by
          obtain ⟨q, hq, rfl⟩ := List.mem_map.mp ht
          exact inT q (hL q hq)
        rw [List.length_map] at this
        have := tiesL_len10 (n := n) rows hB.n10
        omega
      refine ⟨_, rfl, Pq, ks, rfl, hP2, fun q hq => seqT sd (hk q hq).1, few, fun A2 L2 hA h2 h3 => ?_⟩
      have sA := same_upd (o := SetTO P w A2 L2) hA
      refine ⟨A2, L2, 2, 64, rfl, upd_same, fun q hq => seqT sA (seqT sd (hk q (h2 q hq)).1), by decide, fun q hq => ?_, fun L3 p pm nd lt pw hp => ?_⟩
      · obtain ⟨lo, hi, e, e1, e2, _⟩ := tiesL_in (inT q (h2 q hq))
        have := hB.n10
        rw [e]
        refine ⟨rfl, fun z hz => ?_⟩
        rcases List.mem_cons.mp hz with z1 | z1
        · omega
        · rw [List.mem_singleton] at z1
          omega
      · have sp := same_upd (o := .lst (L3.map fun q => V.ref q.1)) hp
        have gp : upd (upd H2 A2 (SetTO P w A2 L2)) p (.lst (L3.map fun q => V.ref q.1)) p = some (.lst (L3.map fun q => V.ref q.1)) := upd_same
        have up := ties_up (n := n) (rows := rows) (by have := hB.n10; omega)
        have ndT : (tiesL n rows).Nodup := up.imp fun z e => by rw [e] at z; omega
        have e3 : L3.map (·.2) = tiesL n rows := by
          have mem : ∀ t, t ∈ L3.map (·.2) ↔ t ∈ tiesL n rows := fun t => by
            rw [(pm.map (·.2)).mem_iff, ← flat_ties hB.inn, ← ek]
            constructor
            · intro ht
              obtain ⟨q, hq, rfl⟩ := List.mem_map.mp ht
              exact List.mem_map.mpr ⟨q, h2 q hq, rfl⟩
            · intro ht
              obtain ⟨q, hq, rfl⟩ := List.mem_map.mp ht
              exact h3 q hq
          have pmT := (List.perm_ext_iff_of_nodup nd ndT).mpr mem
          have inj : ∀ a ∈ tiesL n rows, ∀ c ∈ tiesL n rows, cdT a = cdT c → a = c := fun a ha c hc e => by
            obtain ⟨x, y, rfl, _, _, _⟩ := tiesL_in ha
            obtain ⟨x', y', rfl, _, _, _⟩ := tiesL_in hc
            have := hB.n10
            rw [code_two, code_two] at e
            have e1 : x = x' := by omega
            have e2 : y = y' := by omega
            rw [e1, e2]
          rw [srtP_eq pmT (by rw [List.pairwise_map]; exact pw) inj]
          exact (srtP_eq (.refl _) (up.imp fun z => by omega) inj).symm
        have s23 := sA.trans sp
        have hk3 : ∀ q ∈ L3, TupI K H1 q.1 q.2 := fun q hq => hk q (h2 q (pm.mem_iff.mp hq))
        have pd : p ≠ d := fun e => by rw [e, sA _ _ gd] at hp; cases hp
        generalize upd (upd H2 A2 (SetTO P w A2 L2)) p (.lst (L3.map fun q => V.ref q.1)) = H3 at sp gp s23 ⊢
        have gd3 := s23 _ _ gd
        have tin : ∀ (i : Nat) (q : Addr × List Int), L3[i]? = some q → ∃ lo hi : Nat, q.2 = [(lo : Int), (hi : Int)] ∧ lo < hi ∧ (hi : Int) < n ∧ tiedB rows lo hi = true ∧ (tiesL n rows)[i]? = some [(lo : Int), (hi : Int)] := fun i q hq => by
          have h5 : (L3.map (·.2))[i]? = some q.2 := by rw [List.getElem?_map, hq]; rfl
          rw [e3] at h5
          obtain ⟨lo, hi, e, a1, a2, a3⟩ := tiesL_in (List.mem_of_getElem? h5)
          rw [e] at h5
          exact ⟨lo, hi, e, a1, a2, a3, h5⟩
        let prK : List Int → Int × Int := fun t => (t.getD 0 0, t.getD 1 0)
        have sh3 : Same H1 (hide d H3) := fun c u e => by
          have hne : c ≠ d := fun z => by rw [z, hd] at e; cases e
          rw [hide_ne hne]
          exact s23 _ _ (sd _ _ e)
        refine ⟨p, rfl, ⟨_, SqL.of gp⟩, for_list (K := K) (a := p) (xs := L3.map fun q => V.ref q.1) (fun i σ H4 => ∃ (kd : KDs (Int × Int)) (v4 v6 : Option V), σ = [some (.ref b), some (.ref Pq), v2, some (.ref d), v4, v5, v6, none, none] ∧ Same H1 (hide d H4) ∧ H4 p = some (.lst (L3.map fun q => V.ref q.1)) ∧ H4 d = some (KdO pairK P w d kd) ∧ kd.map (·.2.1) = ((tiesL n rows).take i).map prK ∧ (∀ e ∈ kd, TupI K H1 e.1 [e.2.1.1, e.2.1.2]) ∧ ∀ t ∈ (tiesL n rows).take i, ∃ q, kdGet kd (prK t) = some (.ref q) ∧ TupI K (hide d H4) q (btw n rows (prK t).1 (prK t).2)) ⟨[], _, _, rfl, sh3, gp, gd3, rfl, fun e he => (by cases he), fun t ht => (by cases ht)⟩ (fun i σ H4 _ ⟨_, _, _, _, _, g4, _⟩ => SqL.of g4) (fun i x σ H4 hx ⟨kd, v4, v6, e, s4, g4, gd4, kk, kt, kv⟩ => ?_) (fun σ H4 ⟨kd, v4, v6, e, s4, g4, gd4, kk, kt, kv⟩ => ?_)⟩
        · subst e
          rw [List.getElem?_map] at hx
          obtain ⟨q, hq, ex⟩ := Option.map_eq_some_iff.mp hx
          subst ex
          obtain ⟨lo, hi, eq2, lt2, hn2, tt2, hti⟩ := tin i q hq
          have tq := hk3 q (List.mem_of_getElem? hq)
          rw [eq2] at tq
          have s14 : Same H1 H4 := s4.trans (hide_same d H4)
          have tq4 := tq.same s14
          have h10 := hB.n10
          refine ⟨_, rfl, q.1, _, 0, _, rfl, rfl, tq4.1, rfl, _, _, rfl, rfl, _, rfl, q.1, _, 1, _, rfl, rfl, tq4.1, rfl, (lo : Int) + 1, (hi : Int), rfl, ⟨by omega, by omega, by omega, by omega⟩, fun D hD => ?_⟩
          obtain ⟨TT, eTT⟩ : ∃ TT, TT = rows.flatMap pairsL := ⟨_, rfl⟩
          rw [← eTT] at rpq
          refine lcR (K := K) (lo := (lo : Int) + 1) (n := ((hi : Int) - ((lo : Int) + 1)).toNat) (fun m => decide ([(lo : Int), (lo : Int) + 1 + (m : Nat)] ∈ TT) && decide ([(lo : Int) + 1 + (m : Nat), (hi : Int)] ∈ TT)) (fun m => .int ((lo : Int) + 1 + (m : Nat))) hD (by omega) (fun _ _ _ => rfl) (fun m H5 hm s5 Q1 Q2 k1 k2 => ?_) (fun zs H5 s5 hz5 rz => ?_)
          · have s15 := s14.trans s5
            have tq5 := tq.same s15
            refine ⟨rfl, _, rfl, q.1, _, 0, _, rfl, rfl, tq5.1, rfl, _, rfl, (by show 2 ≤ sizeLine; decide), fun u1 hu1 => ?_⟩
            have su1 := same_upd (o := .tup [V.int (lo : Int), .int ((lo : Int) + 1 + (m : Nat))]) hu1
            have tu1 : TupI K (upd H5 u1 (.tup [V.int (lo : Int), .int ((lo : Int) + 1 + (m : Nat))])) u1 [(lo : Int), (lo : Int) + 1 + (m : Nat)] := ⟨SqT.of upd_same, by show 2 ≤ 1000; decide⟩
            generalize upd H5 u1 (.tup [V.int (lo : Int), .int ((lo : Int) + 1 + (m : Nat))]) = H6 at su1 tu1 ⊢
            refine ⟨_, rfl, .inr ⟨_, TT, tu1.rp, rpq.same (s15.trans su1), ?_⟩⟩
            refine ⟨_, rfl, ?_⟩
            show if decide ([(lo : Int), (lo : Int) + 1 + (m : Nat)] ∈ TT) = true then _ else _
            cases c1 : decide ([(lo : Int), (lo : Int) + 1 + (m : Nat)] ∈ TT) with
            | false => exact iteF (iteF (k2 (by show (decide _ && _) = false; rw [c1]; rfl) _ su1))
            | true =>
              have tq6 := tq5.same su1
              refine iteT ⟨_, rfl, _, rfl, q.1, _, 1, _, rfl, rfl, tq6.1, rfl, (by show 2 ≤ sizeLine; decide), fun u2 hu2 => ?_⟩
              have su2 := same_upd (o := .tup [V.int ((lo : Int) + 1 + (m : Nat)), .int (hi : Int)]) hu2
              have tu2 : TupI K (upd H6 u2 (.tup [V.int ((lo : Int) + 1 + (m : Nat)), .int (hi : Int)])) u2 [(lo : Int) + 1 + (m : Nat), (hi : Int)] := ⟨SqT.of upd_same, by show 2 ≤ 1000; decide⟩
              generalize upd H6 u2 (.tup [V.int ((lo : Int) + 1 + (m : Nat)), .int (hi : Int)]) = H7 at su2 tu2 ⊢
              refine ⟨_, rfl, .inr ⟨_, TT, tu2.rp, rpq.same ((s15.trans su1).trans su2), ?_⟩⟩
              refine ⟨_, rfl, ?_⟩
              show if decide ([(lo : Int) + 1 + (m : Nat), (hi : Int)] ∈ TT) = true then _ else _
              cases c2 : decide ([(lo : Int) + 1 + (m : Nat), (hi : Int)] ∈ TT) with
              | false => exact iteF (k2 (by show (_ && decide _) = false; rw [c2, Bool.and_false]) _ (su1.trans su2))
              | true => exact iteT ⟨_, rfl, k1 (by show (decide _ && decide _) = true; rw [c1, c2]; rfl) _ _ (su1.trans su2) (.int _)⟩
          · have eB : (((List.range ((hi : Int) - ((lo : Int) + 1)).toNat).filter fun m => decide ([(lo : Int), (lo : Int) + 1 + (m : Nat)] ∈ TT) && decide ([(lo : Int) + 1 + (m : Nat), (hi : Int)] ∈ TT)).map fun m => PyData.int ((lo : Int) + 1 + (m : Nat))) = (btw n rows lo hi).map PyData.int := by
              rw [← btw_rg hB.inn lt2 hn2, List.map_map, eTT]
              rfl
            rw [eB] at rz
            have ez := RpAll.ofInts rz
            subst ez
            refine ⟨_, rfl, ?_⟩
            dsimp only [tNil]
            refine tupL_use (SqL.of hz5) fun pp H6 s6 hpp => ?_
            have s46 := s5.trans s6
            have s16 := s14.trans s46
            have lbt := btw_len (rows := rows) h10 (x := (lo : Int)) (y := (hi : Int)) (by omega) hn2
            have lkd : kd.length ≤ 45 := by
              have e7 := congrArg List.length kk
              rw [List.length_map, List.length_map, List.length_take] at e7
              have := tiesL_len10 (n := n) rows h10
              omega
            have gd6 := s46 _ _ gd4
            have g6 := s46 _ _ g4
            refine ⟨_, rfl, _, rfl, d, q.1, kd, ((lo : Int), (hi : Int)), rfl, rfl, gd6, fun e he => ((kt e he).same s16).rp, Nat.lt_of_lt_of_le (by omega : kd.length < 1000) (by decide), (tq.same s16).rp, ?_⟩
            have eT : (tiesL n rows).take (i + 1) = (tiesL n rows).take i ++ [[(lo : Int), (hi : Int)]] := by rw [List.take_succ, hti]; rfl
            have nin : ((lo : Int), (hi : Int)) ∉ kd.map (·.2.1) := fun z => by
              rw [kk] at z
              obtain ⟨t, ht, et⟩ := List.mem_map.mp z
              obtain ⟨x, y, rfl, _, _, _⟩ := tiesL_in (List.mem_of_mem_take ht)
              have e1 : ((x : Int), (y : Int)) = ((lo : Int), (hi : Int)) := et
              injection e1 with e1 e2
              rw [e1, e2] at ht
              have ndE := ndT.sublist (List.take_sublist (i + 1) (tiesL n rows))
              rw [eT] at ndE
              exact (List.nodup_append.mp ndE).2.2 _ ht _ (by simp) rfl
            refine ⟨kdPut kd q.1 ((lo : Int), (hi : Int)) (.ref pp), _, _, rfl, ?_, ?_, upd_same, ?_, fun e he => ?_, fun t ht => ?_⟩
            · rw [hide_upd_self]
              exact s4.trans (hide_mono s46)
            · rw [upd_ne pd]
              exact g6
            · rw [kd_new nin, eT, List.map_append, List.map_append, kk]
              rfl
            · rw [kd_new nin] at he
              rcases List.mem_append.mp he with he | he
              · exact kt e he
              · rw [List.mem_singleton] at he
                rw [he]
                exact tq
            · rw [hide_upd_self]
              rw [eT] at ht
              rcases List.mem_append.mp ht with ht | ht
              · obtain ⟨q2, h5, h6⟩ := kv t ht
                have ne : prK t ≠ ((lo : Int), (hi : Int)) := fun z => nin (by rw [kk]; exact List.mem_map.mpr ⟨t, ht, z⟩)
                exact ⟨q2, by rw [kd_get_put, if_neg ne]; exact h5, h6.same (hide_mono s46)⟩
              · rw [List.mem_singleton] at ht
                subst ht
                exact ⟨pp, by rw [kd_get_put]; exact if_pos rfl, sqt_ext gd6 hpp, by show (btw n rows lo hi).length ≤ 1000; omega⟩
        · subst e
          have le3 : (L3.map fun q => V.ref q.1).length = (tiesL n rows).length := by rw [← e3, List.length_map, List.length_map]
          rw [le3, List.take_length] at kk kv
          have s14 : Same H1 H4 := s4.trans (hide_same d H4)
          refine ⟨_, rfl, k d kd H4 (s1.trans s14) hd0 ⟨gd4, kk, fun e he => ((kt e he).same s14).rp, fun a b hab => ?_⟩⟩
          obtain ⟨t, ht, et⟩ := List.mem_map.mp hab
          obtain ⟨q, h5, h6⟩ := kv t ht
          have ea : prK t = (a, b) := et
          rw [ea] at h5 h6
          exact ⟨q, h5, h6.same (hide_same d H4)⟩
end
end LK
/-! what is read while an own dict is locked does not stand where the dict stands -/
namespace LK
open PySem PySem.Spec PyProof.Rows L2
section
variable {K : PySem.W.Frag} {H : Hp} {d : Addr} {od : Obj} {φ : Heap → Prop}
theorem rd_off {a : Addr} {u : HO} (e : ¬ Rd H d u) (h : Rd H a u) : Rd (hide d H) a u := rd_hide (fun z => e (z ▸ h)) h
theorem sql_off {a : Addr} {xs : List V} (e : ∀ xs, ¬ Rd H d (.lst xs)) (h : SqL K H a xs) : SqL K (hide d H) a xs := by
  rcases h with h | h
  · exact .inl (rd_off (e _) h)
  · exact .inr h
theorem sqt_off {a : Addr} {xs : List V} (e : ∀ xs, ¬ Rd H d (.tup xs)) (h : SqT K H a xs) : SqT K (hide d H) a xs := by
  rcases h with h | h
  · exact .inl (rd_off (e _) h)
  · exact .inr h
mutual
theorem rp_off (e : ∀ xs, ¬ Rd H d (.lst xs)) (f : ∀ xs, ¬ Rd H d (.tup xs)) : ∀ {D : PyData} {v : V}, Rp K H v D → Rp K (hide d H) v D
  | .none, _, h => by cases h; exact .non
  | .bool b, _, h => by cases h; exact .bl b
  | .int i, _, h => by cases h; exact .int i
  | .str x, _, h => by cases h; exact .str x
  | .list ds, _, h => by
    cases h with
    | lst s l r => exact .lst (sql_off e s) l (rpAll_off e f r)
  | .tuple ds, _, h => by
    cases h with
    | tup s l r => exact .tup (sqt_off f s) l (rpAll_off e f r)
  | .dict _, _, h => by cases h
theorem rpAll_off (e : ∀ xs, ¬ Rd H d (.lst xs)) (f : ∀ xs, ¬ Rd H d (.tup xs)) : ∀ {ds : List PyData} {vs : List V}, RpAll K H vs ds → RpAll K (hide d H) vs ds
  | [], _, h => by cases h; exact .nil
  | D :: ds, _, h => by
    cases h with
    | cons a b => exact .cons (rp_off e f a) (rpAll_off e f b)
end
theorem off_frz {u : HO} (e : H d = some (.frz od (.ext φ))) (hu : ∀ ψ, u ≠ .ext ψ) (hf : ∀ o v, u ≠ .frz o v) : ¬ Rd H d u := by
  rintro (h | ⟨f, h⟩)
  · rw [e] at h
    injection h with h
    exact hf _ _ h.symm
  · rw [e] at h
    injection h with h
    injection h with h1 h2
    exact hu _ h2.symm
theorem off_ext {u : HO} (e : H d = some (.ext φ)) (hu : ∀ ψ, u ≠ .ext ψ) : ¬ Rd H d u := by
  rintro (h | ⟨f, h⟩)
  · rw [e] at h
    injection h with h
    exact hu _ h.symm
  · rw [e] at h
    injection h with h
    cases h
theorem sql_frz {a : Addr} {xs : List V} (e : H d = some (.frz od (.ext φ))) (h : SqL K H a xs) : SqL K (hide d H) a xs := sql_off (fun _ => off_frz e (fun _ z => nomatch z) (fun _ _ z => nomatch z)) h
theorem rp_frz (e : H d = some (.frz od (.ext φ))) {D : PyData} {v : V} (h : Rp K H v D) : Rp K (hide d H) v D := rp_off (fun _ => off_frz e (fun _ z => nomatch z) (fun _ _ z => nomatch z)) (fun _ => off_frz e (fun _ z => nomatch z) (fun _ _ z => nomatch z)) h
theorem rpAll_frz (e : H d = some (.frz od (.ext φ))) {ds : List PyData} {vs : List V} (h : RpAll K H vs ds) : RpAll K (hide d H) vs ds := rpAll_off (fun _ => off_frz e (fun _ z => nomatch z) (fun _ _ z => nomatch z)) (fun _ => off_frz e (fun _ z => nomatch z) (fun _ _ z => nomatch z)) h
theorem rpH_ext (e : H d = some (.ext φ)) {D : PyData} {v : V} (h : Rp K H v D) : Rp K (hide d H) v D := rp_off (fun _ => off_ext e (fun _ z => nomatch z)) (fun _ => off_ext e (fun _ z => nomatch z)) h
end
end LK
namespace LK
open PySem PySem.Spec PyProof.Rows L2
def spAllRopes (K : PySem.W.Frag) (P : Program) (w : World) : Sp := fun vs H Q _ => ∃ (d : Addr) (n : Int) (rows : List (List Int)) (ks : KDs (Int × Int)), vs = [.ref d] ∧ MidsAt K P w H d n rows ks ∧ BookR n rows ∧ ∀ p ys H', Same H H' → H p = none → H' p = some (.lst ys) → RpAll K H' ys ((ropesL n rows).map dRope) → Q (.ref p) H'
section
variable {P : Program} {w : World} {K : PySem.W.Frag} {mg : Str → Option Value} {base : Heap} {ad : Nat → Addr} {fd : Nat → FuncData}
theorem ok__law_all_ropes (T : Txt K mg ad fd) : FnOk P w K mg base CX0 1 (ad 46) (fd 46) ["_law_mids"] (spAllRopes K P w) := by
  refine T.F__law_all_ropes.ok sc__law_all_ropes (fun vs H Q E h => ?_) (fun cdv A outer s H vs Q E hr h => ?_)
  · obtain ⟨d, n, rows, ks, rfl, _⟩ := h
    rfl
  · obtain ⟨d, n, rows, ks, rfl, hm, hB, k⟩ := h
    refine ⟨_, (pss_cons (ps_set (i := 1) sc__law_all_ropes.nd rfl (Or.inl rfl) (pe_lst pa_nil))
  (pss_cons (ps_lock (ps_for PassesOwn.never rfl (pi_kd pairK P w (pv 0)) (pg_name (i := 2) (x := "_law_tie") sc__law_all_ropes.nd rfl (Or.inr rfl))
  (pss_cons (ps_set (i := 3) sc__law_all_ropes.nd rfl (Or.inl rfl) (pe_lst (pa_cons (pe_tup pa_nil) pa_nil)))
  (pss_cons (ps_for PassesOwn.never rfl (piT K (pe_kdget pairK K P w (hu65 hr) (pv 0) (pv 2) (fun _ _ => rfl))) (pg_name (i := 4) (x := "_law_w") sc__law_all_ropes.nd rfl (Or.inr rfl))
  (pss_one (ps_set (i := 3) sc__law_all_ropes.nd rfl (Or.inl rfl) (pe_op (catL K) (pv 3) (pe_lc (own := [("_law_lot", 5)]) (g := gName 5) rfl sc__law_all_ropes.nd (piL K (pv 3)) (blkOk_by (N := ["_law_mids", "_law_out", "_law_tie", "_law_lots", "_law_w", "_law_lot"]) (sc := defScope s__law_all_ropes) (by decide +kernel)) (fun _ _ _ _ _ => (pg_name (i := 5) (x := "_law_lot") sc__law_all_ropes.nd rfl (Or.inl rfl))) (fun _ _ _ _ _ => pts_nil) (fun _ _ _ _ _ => (pe_op (catA K) (pv 5) (pe_tup (pa_cons (pv 4) pa_nil)))))))))
  (pss_one (ps_set (i := 1) sc__law_all_ropes.nd rfl (Or.inl rfl) (pe_op (catL K) (pv 1) (pe_lc (own := [("_law_lot", 5)]) (g := gName 5) rfl sc__law_all_ropes.nd (piL K (pv 3)) (blkOk_by (N := ["_law_mids", "_law_out", "_law_tie", "_law_lots", "_law_w", "_law_lot"]) (sc := defScope s__law_all_ropes) (by decide +kernel)) (fun _ _ _ _ _ => (pg_name (i := 5) (x := "_law_lot") sc__law_all_ropes.nd rfl (Or.inl rfl))) (fun _ _ _ _ _ => pts_nil) (fun _ _ _ _ _ => (pe_tup (pa_cons (pe_ix (ixT K) (pv 2) pe_int (fun _ _ => rfl)) (pa_cons (pe_ix (ixT K) (pv 2) pe_int (fun _ _ => rfl)) (pa_cons (pv 5) pa_nil)))))))))))))
  (pss_one (ps_ret (pe_callB (srtRo K (hu65 hr)) (by rfl) T.g_sorted (by decide +kernel) (pa_cons (pv 1) pa_nil)))))), ?_⟩
    refine ⟨(by show 0 ≤ sizeLine; decide), fun O hO => ?_⟩
    obtain ⟨hin, h0, h10, few⟩ := id hB
    have sO := same_upd (o := .lst []) hO
    have gO : upd H O (.lst []) O = some (.lst []) := upd_same
    generalize upd H O (.lst []) = H1 at sO gO ⊢
    have gd1 := sO _ _ hm.at_
    have Od : O ≠ d := fun e => by rw [e, hm.at_] at hO; cases hO
    refine ⟨d, KdO pairK P w d ks, gd1, True.intro, fun od => ?_⟩
    have gL : upd H1 d (.frz od (KdO pairK P w d ks)) d = some (.frz od (KdO pairK P w d ks)) := upd_same
    have sL : Same (hide d H1) (upd H1 d (.frz od (KdO pairK P w d ks))) := fun c u e => by
      have hne : c ≠ d := fun z => by rw [z, hide_self] at e; cases e
      rw [hide_ne hne] at e
      rw [upd_ne hne]
      exact e
    have hO1 : upd H1 d (.frz od (KdO pairK P w d ks)) O = some (.lst []) := by rw [upd_ne Od]; exact gO
    generalize upd H1 d (.frz od (KdO pairK P w d ks)) = HL at gL sL hO1 ⊢
    let pre : Nat → List Rope := fun i => ((tiesL n rows).take i).flatMap (ropesAt n rows)
    refine ⟨_, rfl, d, od, ks, rfl, gL, for_kd (fun i σ H2 => ∃ (Oq : Addr) (os : List V) (v2 v3 v4 : Option V), σ = [some (.ref d), some (.ref Oq), v2, v3, v4, none] ∧ Same HL H2 ∧ SqL K H2 Oq os ∧ RpAll K H2 os ((pre i).map dRope)) ⟨O, [], _, _, _, rfl, Same.refl _, SqL.of hO1, .nil⟩ (fun i σ H2 _ ⟨_, _, _, _, _, _, s2, _⟩ => s2 _ _ gL) (fun i e σ H2 he ⟨Oq, os, v2, v3, v4, eσ, s2, hOq, ro⟩ => ?_) (fun σ H2 ⟨Oq, os, v2, v3, v4, eσ, s2, hOq, ro⟩ => ?_)⟩
    · subst eσ
      have hki : (midKeys n rows)[i]? = some e.2.1 := by
        rw [← hm.keys, List.getElem?_map, he]
        rfl
      unfold midKeys at hki
      rw [List.getElem?_map] at hki
      obtain ⟨t, ht, et⟩ := Option.map_eq_some_iff.mp hki
      obtain ⟨lo, hi, rfl, lt, hn, tt⟩ := tiesL_in (List.mem_of_getElem? ht)
      have ekey : e.2.1 = ((lo : Int), (hi : Int)) := et.symm
      obtain ⟨pv, hpv, tpv⟩ := hm.vals (lo : Int) (hi : Int) (List.mem_map.mpr ⟨_, List.mem_of_getElem? ht, rfl⟩)
      have gd2 := s2 _ _ gL
      have sHL : ∀ {D : PyData} {v : V}, Rp K H v D → Rp K HL v D := fun r => ((rpH_ext hm.at_ r).same (hide_mono sO)).same sL
      have te : TupI K HL e.1 [(lo : Int), (hi : Int)] := by
        have h1 := sHL (hm.kk e (List.mem_of_getElem? he))
        rw [ekey] at h1
        obtain ⟨q, eq, tq⟩ := h1.tupI
        injection eq with eq
        rw [eq]
        exact tq
      have tv : TupI K HL pv (btw n rows lo hi) := by
        obtain ⟨q, eq, tq⟩ := (sHL tpv.rp).tupI
        injection eq with eq
        rw [eq]
        exact tq
      have h8 := btw_len (rows := rows) h10 (x := (lo : Int)) (y := (hi : Int)) (by omega) hn
      have kk2 : KdKeys pairK K H2 ks := fun e' he' => (sHL (hm.kk e' he')).same s2
      refine ⟨(by show 0 ≤ sizeLine; decide), fun e0 he0 => ⟨(by show 1 ≤ sizeLine; decide), fun L0 hL0 => ?_⟩⟩
      have se := same_upd (o := .tup []) he0
      have re0 : Rp K (upd H2 e0 (.tup [])) (.ref e0) (dTup []) := TupI.rp ⟨SqT.of upd_same, by show 0 ≤ 1000; decide⟩
      generalize upd H2 e0 (.tup []) = H3 at se re0 hL0 ⊢
      have sl := same_upd (o := .lst [V.ref e0]) hL0
      have gl : upd H3 L0 (.lst [V.ref e0]) L0 = some (.lst [V.ref e0]) := upd_same
      generalize upd H3 L0 (.lst [V.ref e0]) = H4 at sl gl ⊢
      have s24 := se.trans sl
      have sL4 := s2.trans s24
      refine ⟨_, rfl, _, rfl, d, e.1, ks, ((lo : Int), (hi : Int)), .ref pv, rfl, rfl, .inr ⟨od, sL4 _ _ gL⟩, kk2.same s24, (te.same sL4).rp, hpv, ?_⟩
      have tv4 := tv.same sL4
      obtain ⟨bt, ebt⟩ : ∃ bt, bt = btw n rows lo hi := ⟨_, rfl⟩
      rw [← ebt] at tv4 h8
      have lw : ∀ j, (lotsF (bt.take j)).length ≤ 256 := fun j => by
        rw [lotsF_len]
        have h9 : (bt.take j).length ≤ 8 := by rw [List.length_take]; omega
        exact Nat.pow_le_pow_right (by decide) h9
      refine ⟨pv, rfl, ⟨_, tv4.1⟩, for_tup (K := K) (a := pv) (xs := bt.map V.int) (fun j σ H5 => ∃ (Lq : Addr) (gs : List V) (v4 : Option V), σ = [some (.ref d), some (.ref Oq), some (.ref e.1), some (.ref Lq), v4, none] ∧ Same H4 H5 ∧ SqL K H5 Lq gs ∧ RpAll K H5 gs ((lotsF (bt.take j)).map dTup)) ⟨L0, [.ref e0], _, rfl, Same.refl _, SqL.of gl, .one (re0.same sl)⟩ (fun j σ H5 _ ⟨_, _, _, _, s5, _⟩ => seqT s5 tv4.1) (fun j x σ H5 hx ⟨Lq, gs, v4, e', s5, hLq, rg⟩ => ?_) (fun σ H5 ⟨Lq, gs, v4, e', s5, hLq, rg⟩ => ?_)⟩
      · subst e'
        obtain ⟨z, hz, rfl⟩ := intAt hx
        have lgs := rg.length
        rw [List.length_map] at lgs
        have lwj := lw j
        refine ⟨_, rfl, _, rfl, Lq, rfl, ⟨_, hLq⟩, fun D3 hD3 => ?_⟩
        refine lcL (K := K) (xs := gs) (fun _ => true) (fun m => dTup ((lotsF (bt.take j)).getD m [] ++ [z])) hD3 hLq (by omega) (fun _ _ _ => noL_dTup _) (fun m x H6 hm6 s6 Q1 Q2 k1 k2 => ?_) (fun zs H6 s6 hz6 rz => ?_)
        · obtain ⟨A1, ca, hA1, rfl, tca⟩ := rg.row hm6
          have em : (lotsF (bt.take j)).getD m [] = A1 := by rw [List.getD_eq_getElem?_getD, hA1]; rfl
          rw [em] at k1
          have lA := lotsF_word (List.mem_of_getElem? hA1)
          have lt8 : (bt.take j).length ≤ 8 := by rw [List.length_take]; omega
          refine ⟨rfl, _, rfl, _, rfl, (by show 1 ≤ sizeLine; decide), fun q hq => ?_⟩
          have sq := same_upd (o := .tup [V.int z]) hq
          refine catA_use (seqT sq (tca.same s6).1) (SqT.of upd_same) (by rw [List.length_map]; show _ + 1 ≤ 2000; omega) fun p3 H7 s7 hp3 => ?_
          refine k1 rfl _ _ (sq.trans s7) (TupI.rp ⟨by rw [List.map_append]; exact hp3, by rw [List.length_append]; show _ + 1 ≤ 1000; omega⟩)
        · rw [filter_true, lgs, map_range (fun t : List Int => dTup (t ++ [z])) [] (lotsF (bt.take j))] at rz
          have lz := rz.length
          rw [List.length_map] at lz
          refine ⟨Lq, D3, _, _, rfl, rfl, s6.seq hLq, SqL.of hz6, by omega, fun q hq => ?_⟩
          have sq := same_upd (o := .lst (gs ++ zs)) hq
          refine ⟨q, gs ++ zs, _, rfl, (s5.trans s6).trans sq, SqL.of upd_same, ?_⟩
          have eT : bt.take (j + 1) = bt.take j ++ [z] := by rw [List.take_succ, hz]; rfl
          rw [eT, lotsF_snoc]
          unfold lotG
          rw [List.map_append, List.map_map]
          exact (rg.same (s6.trans sq)).app (rz.same sq)
      · subst e'
        rw [List.length_map, List.take_length] at rg
        have lgs := rg.length
        rw [List.length_map] at lgs
        have lwA : (lotsF bt).length ≤ 256 := by have := lw bt.length; rwa [List.take_length] at this
        have s25 := s24.trans s5
        have te5 := te.same (s2.trans s25)
        refine ⟨_, rfl, _, rfl, Lq, rfl, ⟨_, hLq⟩, fun D3 hD3 => ?_⟩
        refine lcL (K := K) (xs := gs) (fun _ => true) (fun m => dRope ((lo : Int), (hi : Int), (lotsF bt).getD m [])) hD3 hLq (by omega) (fun _ _ _ => noL_rope _) (fun m x H6 hm6 s6 Q1 Q2 k1 k2 => ?_) (fun zs H6 s6 hz6 rz => ?_)
        · obtain ⟨A1, ca, hA1, rfl, tca⟩ := rg.row hm6
          have em : (lotsF bt).getD m [] = A1 := by rw [List.getD_eq_getElem?_getD, hA1]; rfl
          rw [em] at k1
          have te6 := te5.same s6
          refine ⟨rfl, _, rfl, e.1, _, 0, _, rfl, rfl, te6.1, rfl, _, rfl, e.1, _, 1, _, rfl, rfl, te6.1, rfl, _, rfl, (by show 3 ≤ sizeLine; decide), fun q hq => ?_⟩
          have sq := same_upd (o := .tup [V.int (lo : Int), .int (hi : Int), .ref ca]) hq
          exact k1 rfl _ _ sq (.tup (SqT.of upd_same) (by show 3 ≤ 1000; decide) (.cons (.int _) (.two (.int _) ((tca.same s6).same sq).rp)))
        · rw [filter_true, lgs, map_range (fun t : List Int => dRope ((lo : Int), (hi : Int), t)) [] (lotsF bt)] at rz
          have lz := rz.length
          rw [List.length_map] at lz
          have lo_ := ro.length
          rw [List.length_map] at lo_
          have lpre : (pre i).length ≤ 1000 := by
            have e9 : ropesAll n rows = ((tiesL n rows).take i).flatMap (ropesAt n rows) ++ ((tiesL n rows).drop i).flatMap (ropesAt n rows) := by
              unfold ropesAll
              rw [← List.flatMap_append, List.take_append_drop]
            have e10 := congrArg List.length e9
            rw [List.length_append] at e10
            have e11 : (pre i).length = (((tiesL n rows).take i).flatMap (ropesAt n rows)).length := rfl
            omega
          refine ⟨Oq, D3, _, _, rfl, rfl, (s25.trans s6).seq hOq, SqL.of hz6, by omega, fun q hq => ?_⟩
          have sq := same_upd (o := .lst (os ++ zs)) hq
          have s27 := (s25.trans s6).trans sq
          refine ⟨q, os ++ zs, _, _, _, rfl, s2.trans s27, SqL.of upd_same, ?_⟩
          have eT : pre (i + 1) = pre i ++ ropesAt n rows [(lo : Int), (hi : Int)] := by
            show ((tiesL n rows).take (i + 1)).flatMap _ = _
            rw [List.take_succ, ht, List.flatMap_append]
            congr 1
            exact List.flatMap_singleton _ _
          have eR : (ropesAt n rows [(lo : Int), (hi : Int)]).map dRope = (lotsF bt).map fun t => dRope ((lo : Int), (hi : Int), t) := by
            unfold ropesAt
            rw [List.map_map, ebt]
            rfl
          rw [eT, List.map_append, eR]
          exact (ro.same s27).app (rz.same sq)
    · subst eσ
      have gd2 := s2 _ _ gL
      have kl : ks.length = (tiesL n rows).length := by
        have := congrArg List.length hm.keys
        unfold midKeys at this
        rwa [List.length_map, List.length_map] at this
      have ep : pre ks.length = ropesAll n rows := by
        show ((tiesL n rows).take ks.length).flatMap _ = _
        rw [kl, List.take_length]
        rfl
      rw [ep] at ro
      have eh : hide d (upd H2 d (KdO pairK P w d ks)) = hide d H2 := hide_upd_self
      have sU : Same (hide d H2) (upd H2 d (KdO pairK P w d ks)) := by
        rw [← eh]
        exact hide_same d _
      have hOU : SqL K (upd H2 d (KdO pairK P w d ks)) Oq os := sU.seq (sql_frz gd2 hOq)
      have roU : RpAll K (upd H2 d (KdO pairK P w d ks)) os ((ropesAll n rows).map dRope) := (rpAll_frz gd2 ro).same sU
      have sH : Same H (upd H2 d (KdO pairK P w d ks)) := fun c u e => by
        by_cases z : c = d
        · subst z
          rw [upd_same]
          rw [hm.at_] at e
          exact e
        · rw [upd_ne z]
          have h1 : hide d H1 c = some u := by rw [hide_ne z]; exact sO _ _ e
          exact s2 _ _ (sL _ _ h1)
      refine ⟨gd2, ?_⟩
      generalize upd H2 d (KdO pairK P w d ks) = HU at hOU roU sH ⊢
      refine ⟨_, rfl, Oq, os, ropesAll n rows, rfl, hOU, roU, fun zs p lz rz hp => ?_⟩
      have sp := same_upd (o := .lst zs) hp
      refine k p zs _ (sH.trans sp) ?_ upd_same (rz.same sp)
      cases e : H p with
      | none => rfl
      | some u => exact absurd ((sH _ _ e).symm.trans hp) (by simp)
end
end LK
namespace LK
open PySem PySem.Spec PyProof.Rows L2
mutual
def deepD : PyData → Nat
  | .tuple ds => deepDs ds + 1
  | _ => 0
def deepDs : List PyData → Nat
  | [] => 0
  | d :: ds => max (deepD d) (deepDs ds)
end
theorem deepDs_mem : ∀ {ds : List PyData} {d : PyData}, d ∈ ds → deepD d ≤ deepDs ds
  | [], d, h => by simp at h
  | e :: ds, d, h => by
    unfold deepDs
    rcases List.mem_cons.mp h with rfl | h
    · omega
    · have := deepDs_mem h
      omega
theorem noLs_mem : ∀ {ds : List PyData} {d : PyData}, noLs ds = true → d ∈ ds → noL d = true
  | [], d, _, h => by simp at h
  | e :: ds, d, n, h => by
    unfold noLs at n
    rw [Bool.and_eq_true] at n
    rcases List.mem_cons.mp h with rfl | h
    · exact n.1
    · exact noLs_mem n.2 h
def spSame (K : PySem.W.Frag) (n : Nat) : Sp := fun vs H Q _ => ∃ v u d e, vs = [v, u] ∧ Rp K H v d ∧ Rp K H u e ∧ noL d = true ∧ deepD d ≤ n ∧ ∀ b H', Same H H' → (b = true ↔ d = e) → Q (.bl b) H'
section
variable {P : Program} {w : World} {K : PySem.W.Frag} {mg : Str → Option Value} {base : Heap} {ad : Nat → Addr} {fd : Nat → FuncData}
theorem same_step (T : Txt K mg ad fd) (n : Nat) (sp : Sp) (F : FnOk P w K mg base CX0 (n + 1) (ad 47) (fd 47) ["_law_due", "_law_told"] sp) (hsp : ∀ m vs H Q E, n = m + 1 → spSame K m vs H Q E → sp vs H Q E) :
    FnOk P w K mg base CX0 (n + 2) (ad 47) (fd 47) ["_law_due", "_law_told"] (spSame K n) := by
  refine T.F__law_same.ok sc__law_same (fun vs H Q E h => ?_) (fun cdv A outer s H vs Q E hr h => ?_)
  · obtain ⟨v, u, d, e, rfl, _⟩ := h
    rfl
  · obtain ⟨v, u, d, e, rfl, hv, hu, nd, dd, k⟩ := h
    refine ⟨_, (pss_cons (ps_if (pt_val (pe_callB (isiR K) (by rfl) T.g_isinstance (by decide +kernel) (pa_cons (pv 0) (pa_cons (pe_bltn (v := .ty "tuple") (by rfl) T.g_tuple (by decide +kernel) rfl) pa_nil)))) (pss_cons (ps_if (PW.pt (pw_or (pt_not (pt_val (pe_callB (isiR K) (by rfl) T.g_isinstance (by decide +kernel) (pa_cons (pv 1) (pa_cons (pe_bltn (v := .ty "tuple") (by rfl) T.g_tuple (by decide +kernel) rfl) pa_nil))))) (pw_or1 (pt_cmpR op_ne (pe_callB (lenS K) (by rfl) T.g_len (by decide +kernel) (pa_cons (pv 0) pa_nil)) (pe_callB (lenS K) (by rfl) T.g_len (by decide +kernel) (pa_cons (pv 1) pa_nil)) (nomark _))))) (pss_one (ps_ret pe_bl))
  pss_nil)
  (pss_cons (ps_for PassesOwn.never rfl (pi_range1 rfl T.g_range (pa_cons (pe_callB (lenS K) (by rfl) T.g_len (by decide +kernel) (pa_cons (pv 0) pa_nil)) pa_nil)) (pg_name (i := 2) (x := "_law_k") sc__law_same.nd rfl (Or.inl rfl))
  (pss_one (ps_if (pt_not (pt_val (pe_call F hr rfl T.m__law_same T.F__law_same.kp (b__law_same T) .nil pass0 (pa_cons (pe_ix (ixT K) (pv 0) (pv 2) (fun _ _ => rfl)) (pa_cons (pe_ix (ixT K) (pv 1) (pv 2) (fun _ _ => rfl)) pa_nil))))) (pss_one (ps_ret pe_bl))
  pss_nil)))
  (pss_one (ps_ret pe_bl))))
  pss_nil)
  (pss_cons (ps_if (PW.pt (pw_or (pt_val (pe_callB (isiR K) (by rfl) T.g_isinstance (by decide +kernel) (pa_cons (pv 0) (pa_cons (pe_bltn (v := .ty "bool") (by rfl) T.g_bool (by decide +kernel) rfl) pa_nil)))) (pw_or1 (pt_val (pe_callB (isiR K) (by rfl) T.g_isinstance (by decide +kernel) (pa_cons (pv 1) (pa_cons (pe_bltn (v := .ty "bool") (by rfl) T.g_bool (by decide +kernel) rfl) pa_nil))))))) (pss_one (ps_ret (pe_and (pe_callB (isiR K) (by rfl) T.g_isinstance (by decide +kernel) (pa_cons (pv 0) (pa_cons (pe_bltn (v := .ty "bool") (by rfl) T.g_bool (by decide +kernel) rfl) pa_nil))) (pe_and (pe_callB (isiR K) (by rfl) T.g_isinstance (by decide +kernel) (pa_cons (pv 1) (pa_cons (pe_bltn (v := .ty "bool") (by rfl) T.g_bool (by decide +kernel) rfl) pa_nil))) (pe_one (pe_cmpR op_eq (pv 0) (pv 1) (nomark _)))))))
  pss_nil)
  (pss_cons (ps_if (pt_val (pe_callB (isiR K) (by rfl) T.g_isinstance (by decide +kernel) (pa_cons (pv 0) (pa_cons (pe_bltn (v := .ty "int") (by rfl) T.g_int (by decide +kernel) rfl) pa_nil)))) (pss_one (ps_ret (pe_and (pe_callB (isiR K) (by rfl) T.g_isinstance (by decide +kernel) (pa_cons (pv 1) (pa_cons (pe_bltn (v := .ty "int") (by rfl) T.g_int (by decide +kernel) rfl) pa_nil))) (pe_one (pe_cmpR op_eq (pv 0) (pv 1) (nomark _))))))
  pss_nil)
  (pss_cons (ps_if (pt_val (pe_callB (isiR K) (by rfl) T.g_isinstance (by decide +kernel) (pa_cons (pv 0) (pa_cons (pe_bltn (v := .ty "str") (by rfl) T.g_str (by decide +kernel) rfl) pa_nil)))) (pss_one (ps_ret (pe_and (pe_callB (isiR K) (by rfl) T.g_isinstance (by decide +kernel) (pa_cons (pv 1) (pa_cons (pe_bltn (v := .ty "str") (by rfl) T.g_str (by decide +kernel) rfl) pa_nil))) (pe_one (pe_cmpR op_eq (pv 0) (pv 1) (nomark _))))))
  pss_nil)
  (pss_one (ps_ret (pe_and (pe_cmpR op_isN (pv 0) pe_non (nomark _)) (pe_one (pe_cmpR op_isN (pv 1) pe_non (nomark _)))))))))), ?_⟩
    have hv0 := hv
    have kk : ∀ b, (b = true ↔ d = e) → Q (.bl b) H := fun b h => k b H (Same.refl _) h
    refine ⟨_, rfl, v, .ty "tuple", _, _, _, rfl, .ty _, hv.ty, isi_tuple hv, _, rfl, ?_⟩
    cases hv with
    | lst => exact absurd nd (by simp [noL])
    | bl c =>
      refine iteF ⟨_, rfl, .bl c, .ty "bool", _, _, _, rfl, .ty _, TyX.base (.bl c), isi_bool (K := K) (H := H) (.bl c), _, rfl, ?_⟩
      refine iteT (iteT ⟨_, rfl, .bl c, .ty "bool", _, _, _, rfl, .ty _, TyX.base (.bl c), isi_bool (K := K) (H := H) (.bl c), _, rfl, ?_⟩)
      refine iteT ⟨_, rfl, u, .ty "bool", _, _, _, rfl, .ty _, hu.ty, isi_bool hu, _, rfl, ?_⟩
      cases hu with
      | bl c2 =>
        refine iteT ⟨_, rfl, _, rfl, rfl, kk _ ?_⟩
        cases c <;> cases c2 <;> simp
      | _ => exact iteF (kk _ ⟨(fun z => by cases z), fun z => by cases z⟩)
    | int j =>
      refine iteF ⟨_, rfl, .int j, .ty "bool", _, _, _, rfl, .ty _, TyX.base (.int j), isi_bool (K := K) (H := H) (.int j), _, rfl, ?_⟩
      refine iteF ⟨_, rfl, u, .ty "bool", _, _, _, rfl, .ty _, hu.ty, isi_bool hu, _, rfl, ?_⟩
      cases eb : isBoolB e with
      | true => exact iteT ⟨_, rfl, .int j, .ty "bool", _, _, _, rfl, .ty _, TyX.base (.int j), isi_bool (K := K) (H := H) (.int j), _, rfl, iteF (kk _ ⟨(fun z => by cases z), fun z => by rw [← z] at eb; cases eb⟩)⟩
      | false =>
        refine iteF ⟨_, rfl, .int j, .ty "int", _, _, _, rfl, .ty _, TyX.base (.int j), isi_int (K := K) (H := H) (.int j), _, rfl, ?_⟩
        refine iteT ⟨_, rfl, u, .ty "int", _, _, _, rfl, .ty _, hu.ty, isi_int hu, _, rfl, ?_⟩
        cases ei : isIntB e with
        | false => exact iteF (kk _ ⟨(fun z => by cases z), fun z => by rw [← z] at ei; cases ei⟩)
        | true =>
          cases hu with
          | int i => exact iteT ⟨_, rfl, _, rfl, rfl, kk _ (by simp)⟩
          | bl => first | cases eb | cases ei
          | _ => cases ei
    | str y =>
      refine iteF ⟨_, rfl, .str y, .ty "bool", _, _, _, rfl, .ty _, TyX.base (.str y), isi_bool (K := K) (H := H) (.str y), _, rfl, ?_⟩
      refine iteF ⟨_, rfl, u, .ty "bool", _, _, _, rfl, .ty _, hu.ty, isi_bool hu, _, rfl, ?_⟩
      cases eb : isBoolB e with
      | true => exact iteT ⟨_, rfl, .str y, .ty "bool", _, _, _, rfl, .ty _, TyX.base (.str y), isi_bool (K := K) (H := H) (.str y), _, rfl, iteF (kk _ ⟨(fun z => by cases z), fun z => by rw [← z] at eb; cases eb⟩)⟩
      | false =>
        refine iteF ⟨_, rfl, .str y, .ty "int", _, _, _, rfl, .ty _, TyX.base (.str y), isi_int (K := K) (H := H) (.str y), _, rfl, ?_⟩
        refine iteF ⟨_, rfl, .str y, .ty "str", _, _, _, rfl, .ty _, TyX.base (.str y), isi_str (K := K) (H := H) (.str y), _, rfl, ?_⟩
        refine iteT ⟨_, rfl, u, .ty "str", _, _, _, rfl, .ty _, hu.ty, isi_str hu, _, rfl, ?_⟩
        cases ei : isStrB e with
        | false => exact iteF (kk _ ⟨(fun z => by cases z), fun z => by rw [← z] at ei; cases ei⟩)
        | true =>
          cases hu with
          | str x => exact iteT ⟨_, rfl, _, rfl, rfl, kk _ (by simp)⟩
          | bl => first | cases eb | cases ei
          | _ => cases ei
    | non =>
      refine iteF ⟨_, rfl, .non, .ty "bool", _, _, _, rfl, .ty _, TyX.base (.non), isi_bool (K := K) (H := H) (.non), _, rfl, ?_⟩
      refine iteF ⟨_, rfl, u, .ty "bool", _, _, _, rfl, .ty _, hu.ty, isi_bool hu, _, rfl, ?_⟩
      cases eb : isBoolB e with
      | true => exact iteT ⟨_, rfl, .non, .ty "bool", _, _, _, rfl, .ty _, TyX.base (.non), isi_bool (K := K) (H := H) (.non), _, rfl, iteF (kk _ ⟨(fun z => by cases z), fun z => by rw [← z] at eb; cases eb⟩)⟩
      | false =>
        refine iteF ⟨_, rfl, .non, .ty "int", _, _, _, rfl, .ty _, TyX.base (.non), isi_int (K := K) (H := H) (.non), _, rfl, ?_⟩
        refine iteF ⟨_, rfl, .non, .ty "str", _, _, _, rfl, .ty _, TyX.base (.non), isi_str (K := K) (H := H) (.non), _, rfl, ?_⟩
        refine iteF ⟨_, rfl, rfl, _, rfl, ?_⟩
        refine iteT ⟨_, rfl, rfl, kk _ ?_⟩
        cases hu <;> simp
    | @tup a xs ds sx lx rx =>
      refine iteT ⟨_, rfl, u, .ty "tuple", _, _, _, rfl, .ty _, hu.ty, isi_tuple hu, _, rfl, ?_⟩
      cases hu with
      | @tup a' ys es sy ly ry =>
        refine iteF ⟨_, rfl, a, _, rfl, .inr sx, _, rfl, a', _, rfl, .inr sy, rfl, _, rfl, ?_⟩
        have l1 := rx.length
        have l2 := ry.length
        show if (!decide (V.int (xs.length : Nat) = V.int (ys.length : Nat))) = true then _ else _
        by_cases c : xs.length = ys.length
        rotate_left
        · rw [decide_eq_false (show ¬ V.int (xs.length : Nat) = V.int (ys.length : Nat) from fun z => c (by injection z with z; omega))]
          refine iteT (k false _ (Same.refl _) ⟨(fun z => by cases z), fun z => ?_⟩)
          have : ds = es := by injection z
          rw [this] at l1
          omega
        rw [decide_eq_true (show V.int (xs.length : Nat) = V.int (ys.length : Nat) by rw [c])]
        obtain ⟨m, rfl⟩ : ∃ m, n = m + 1 := ⟨n - 1, by unfold deepD at dd; omega⟩
        have de2 : deepDs ds ≤ m := by
          unfold deepD at dd
          omega
        have hs1 : (1000 : Nat) < 2 ^ 62 := by decide
        refine iteF ⟨_, rfl, a, _, rfl, .inr sx, _, rfl, ?_, ?_, for_range (fun i σ H1 => ∃ v2, σ = [some (.ref a), some (.ref a'), v2] ∧ Same H H1 ∧ ∀ j, j < i → ds[j]? = es[j]?)
          ⟨none, rfl, Same.refl _, fun j hj => absurd hj (Nat.not_lt_zero _)⟩ (fun i σ H1 hi ⟨v2, e1, s1, hp⟩ => ?_) (fun σ H1 ⟨v2, e1, s1, hp⟩ => ?_)⟩
        · omega
        · omega
        · subst e1
          have h00 : i < xs.length := by simpa using hi
          have hi2 : i < ys.length := by omega
          obtain ⟨u2, hu2⟩ : ∃ u2, ys[i]? = some u2 := ⟨_, List.getElem?_eq_getElem hi2⟩
          obtain ⟨v3, hv3⟩ : ∃ v3, xs[i]? = some v3 := ⟨_, List.getElem?_eq_getElem (by omega)⟩
          obtain ⟨e2, he2, re2⟩ := ry.get hu2
          obtain ⟨d2, hd2, rd2⟩ := rx.get hv3
          refine ⟨_, rfl, _, rfl, a, _, _, _, rfl, rfl, seqT s1 sx, at_of (j := i) (by omega) hv3, _, rfl, _, rfl, a', _, _, _, rfl, rfl, seqT s1 sy, at_of (j := i) (by omega) hu2, ?_⟩
          refine hsp m _ _ _ _ rfl ⟨v3, u2, d2, e2, rfl, rd2.same s1, re2.same s1, noLs_mem (by simpa [noL] using nd) (List.mem_of_getElem? hd2), Nat.le_trans (deepDs_mem (List.mem_of_getElem? hd2)) de2, fun b H2 s2 hb => ⟨_, rfl, ?_⟩⟩
          cases b with
          | false =>
            refine iteT (k false _ (s1.trans s2) ⟨(fun z => by cases z), fun z => ?_⟩)
            have ez : ds = es := by injection z
            rw [ez, he2] at hd2
            exact hb.mpr (Option.some.inj hd2).symm
          | true =>
            refine iteF ⟨_, rfl, s1.trans s2, fun j hj => ?_⟩
            by_cases ej : j = i
            · subst ej
              rw [hd2, he2, hb.mp rfl]
            · exact hp j (by omega)
        · subst e1
          refine k true _ s1 ⟨fun _ => ?_, fun _ => rfl⟩
          congr 1
          refine List.ext_getElem? fun j => ?_
          by_cases hj : j < ys.length
          · exact hp j (by omega)
          · rw [List.getElem?_eq_none (by omega), List.getElem?_eq_none (by omega)]
      | _ => exact iteT (k false _ (Same.refl _) ⟨(fun z => by cases z), fun z => (by cases z)⟩)
theorem ok__law_same_n (T : Txt K mg ad fd) : ∀ n, FnOk P w K mg base CX0 (n + 2) (ad 47) (fd 47) ["_law_due", "_law_told"] (spSame K n)
  | 0 => same_step T 0 (fun _ _ _ _ => False) ⟨fun _ _ _ _ h => h.elim, fun _ _ _ _ _ _ _ _ _ _ _ _ _ h => h.elim⟩ (fun m vs H Q E e _ => by cases e)
  | n + 1 => same_step T (n + 1) _ (ok__law_same_n T n) fun m vs H Q E e h => by
    have : n = m := by omega
    subst this
    exact h
theorem ok__law_same (T : Txt K mg ad fd) : FnOk P w K mg base CX0 5 (ad 47) (fd 47) ["_law_due", "_law_told"] (spSame K 3) := ok__law_same_n T 3
end
end LK
namespace LK
open PySem PySem.Spec PyProof.Rows L2
def spSome (K : PySem.W.Frag) : Sp := fun vs H Q _ => ∃ (S p : Addr) (ys : List V) (R : List Rope), vs = [.ref S, .ref p] ∧ StOk H S S ∧ SqL K (hide S H) p ys ∧ RpAll K (hide S H) ys (R.map dRope) ∧ R.length ≤ 1000 ∧ ∀ t L H', L.Sublist R → Mv S S H H' → Rp K (hide S H') (.ref t) (dRopes L) → Q (.ref t) H'
section
variable {P : Program} {w : World} {K : PySem.W.Frag} {mg : Str → Option Value} {base : Heap} {ad : Nat → Addr} {fd : Nat → FuncData}
theorem ok__law_some (T : Txt K mg ad fd) : FnOk P w K mg base CX0 2 (ad 49) (fd 49) ["_law_d", "_law_ropes"] (spSome K) := by
  refine T.F__law_some.ok sc__law_some (fun vs H Q E h => ?_) (fun cdv A outer s H vs Q E hr h => ?_)
  · obtain ⟨S, p, ys, R, rfl, _⟩ := h
    rfl
  · obtain ⟨S, p, ys, R, rfl, st, hp, ry, lR, k⟩ := h
    refine ⟨_, (pss_cons (ps_set (i := 2) sc__law_some.nd rfl (Or.inl rfl) (pe_op op_add pe_int (pe_call (ok__law_take T) (hr.mono (by decide)) rfl T.m__law_take T.F__law_take.kp (b__law_take T) .nil pass0 (pa_cons (pv 0) (pa_cons pe_int pa_nil)))))
  (pss_cons (ps_set (i := 3) sc__law_some.nd rfl (Or.inl rfl) (pe_call (ok__law_take T) (hr.mono (by decide)) rfl T.m__law_take T.F__law_take.kp (b__law_take T) .nil pass0 (pa_cons (pv 0) (pa_cons pe_int pa_nil))))
  (pss_cons (ps_set (i := 4) sc__law_some.nd rfl (Or.inl rfl) (pe_lst pa_nil))
  (pss_cons (ps_for PassesOwn.never rfl (piL K (pv 1)) (pg_name (i := 5) (x := "_law_rope") sc__law_some.nd rfl (Or.inl rfl))
  (pss_cons (ps_if (pt_cmpR op_eq (pe_op op_mod (pe_callTy call_int1 (by rfl) T.g_int (by decide +kernel) (pa_cons (pv 3) pa_nil)) (pv 2)) pe_int (nomark _)) (pss_one (ps_expr (pe_bmK K PySem.F.plainAttrs_list PySem.F.slot_list_append PySem.F.type_list_append mt_append (pv 4) (pa_cons (pv 5) pa_nil))))
  pss_nil)
  (pss_one (ps_set (i := 3) sc__law_some.nd rfl (Or.inl rfl) (pe_op op_fdiv (pv 3) (pv 2))))))
  (pss_one (ps_ret (pe_callTy (tupOf K) (by rfl) T.g_tuple (by decide +kernel) (pa_cons (pv 4) pa_nil)))))))), ?_⟩
    have ly := ry.length
    rw [List.length_map] at ly
    refine ⟨_, rfl, S, 4, rfl, st, by decide, fun th H1 a0 a1 m1 => ⟨_, _, rfl, rfl, ?_⟩⟩
    refine ⟨_, rfl, S, 1125899906842624, rfl, m1.ok, by decide, fun bi H2 b0 b1 m2 => ?_⟩
    have m12 := m1.trans m2
    refine ⟨(by show 0 ≤ sizeLine; decide), fun O hO => ?_⟩
    have OS := free_ne m2.ok hO
    have hp2 := (hide_same S H2).seq (m12.same.seq hp)
    have ry2 : RpAll K H2 ys (R.map dRope) := (m12.all ry).same (hide_same S H2)
    have sO := same_upd (o := .lst []) hO
    refine ⟨_, rfl, p, rfl, ⟨_, sO.seq hp2⟩, for_list (K := K) (a := p) (xs := ys) (fun i σ H3 => ∃ (bits : Int) (v5 : Option V) (os : List V) (L : List Rope), σ = [some (.ref S), some (.ref p), some (.int (2 + th)), some (.int bits), some (.ref O), v5] ∧ Fill H2 O H3 os ∧ RpAll K H3 os (L.map dRope) ∧ L.Sublist (R.take i)) ⟨bi, _, [], [], rfl, Fill.start hO, .nil, List.Sublist.refl _⟩ (fun i σ H3 _ ⟨_, _, _, _, _, fl, _⟩ => fl.1.seq hp2) (fun i x σ H3 hx ⟨bits, v5, os, L, e, fl, ro, sub⟩ => ?_) (fun σ H3 ⟨bits, v5, os, L, e, fl, ro, sub⟩ => ?_)⟩
    · subst e
      obtain ⟨dd, hd, rx⟩ := ry2.get hx
      rw [List.getElem?_map] at hd
      obtain ⟨r, hr2, ed⟩ := Option.map_eq_some_iff.mp hd
      subst ed
      have eT : R.take (i + 1) = R.take i ++ [r] := by rw [List.take_succ, hr2]; rfl
      have los := ro.length
      rw [List.length_map] at los
      have lsub := sub.length_le
      rw [List.length_take] at lsub
      refine ⟨_, rfl, .inl ⟨_, rfl, _, rfl, _, _, rfl, rfl, (by show (0 : Int) < 2 + th; omega), rfl, _, rfl, ?_⟩⟩
      show if decide (V.int (bits % (2 + th)) = V.int 1) = true then _ else _
      cases decide (V.int (bits % (2 + th)) = V.int 1) with
      | false => exact iteF ⟨_, rfl, _, rfl, _, _, rfl, rfl, ⟨by omega, by omega⟩, _, _, os, L, rfl, fl, ro, by rw [eT]; exact sub.trans (List.sublist_append_left _ _)⟩
      | true =>
        refine iteT ⟨_, rfl, .inl ⟨rfl, _, SqL.of fl.2⟩, _, rfl, O, _, _, rfl, rfl, fl.2, Nat.lt_of_lt_of_le (by omega : os.length < 2000) (by decide), ?_⟩
        refine ⟨_, rfl, _, rfl, _, _, rfl, rfl, ⟨by omega, by omega⟩, _, _, os ++ [x], L ++ [r], rfl, fl.push hO (Same.refl _), ?_, by rw [eT]; exact sub.append (List.Sublist.refl _)⟩
        rw [List.map_append]
        refine RpAll.upd fl.2 ?_ (ro.app (.one (rx.same fl.1)))
        have := noLs_ropes (L ++ [r])
        rw [List.map_append] at this
        exact this
    · subst e
      have los := ro.length
      rw [List.length_map] at los
      have lsub := sub.length_le
      rw [List.length_take] at lsub
      refine ⟨_, rfl, ?_⟩
      dsimp only [tNil]
      refine tupL_use (SqL.of fl.2) fun q H4 s4 hq => ?_
      have mE := m12.then (fl.1.trans s4)
      have noR : noL (dRopes L) = true := noLs_ropes L
      exact k q L _ (sub.trans (List.take_sublist _ _)) mE (rp_hide mE.ok noR (.tup hq (by omega) (ro.same s4)))
end
end LK
/-! pieces by going down from cut to cut -/
namespace LK
open PySem PySem.Spec PyProof.Rows L2
theorem things_asc {n : Int} {rows : List (List Int)} {r : Rope} (h : r.1 < r.2.1) : (thingsR n rows r).Pairwise (· < ·) := by
  unfold thingsR
  refine List.pairwise_append.mpr ⟨List.pairwise_cons.mpr ⟨fun z hz => (btw_mem.mp hz).1, btw_pw n rows _ _⟩, List.pairwise_singleton _ _, fun a ha b hb => ?_⟩
  rw [List.mem_singleton] at hb
  subst hb
  rcases List.mem_cons.mp ha with rfl | ha
  · exact h
  · exact (btw_mem.mp ha).2.1
theorem things_T {n : Int} {rows : List (List Int)} {r : Rope} : thingsR n rows r = thingsT n rows r.1 r.2.1 := rfl
/-- one cut more: what is cut from a cut is cut from the rope -/
theorem cut_cut {n : Int} {rows : List (List Int)} {r : Rope} {a b x y : Int} (h : ∀ w ∈ btw n rows x y, w ∈ btw n rows a b) : cutR n rows (cutR n rows r a b) x y = cutR n rows r x y := by
  unfold cutR
  refine Prod.ext rfl (Prod.ext rfl ?_)
  refine List.filter_congr fun w hw => ?_
  rw [decide_eq_decide, List.mem_filter]
  constructor
  · rintro ⟨_, h2⟩
    simpa using h2
  · intro h2
    exact ⟨h w hw, by simpa using h2⟩
/-- what lies between two things of a tie lies between the ends of the tie -/
theorem whole_sub {n : Int} {rows B : List (List Int)} (h : Whole n B) (e : TieEq rows B) {a b : Int} (lt : a < b) (t : tiedB rows a b = true) {x y : Int} (hx : x ∈ thingsT n rows a b) (hy : y ∈ thingsT n rows a b) {w : Int} (hw : w ∈ btw n rows x y) : w ∈ btw n rows a b := by
  obtain ⟨r, hr, ha, hb, hin⟩ := whole_btw h e lt t
  have k : ∀ z ∈ thingsT n rows a b, z ∈ r ∧ a ≤ z ∧ z ≤ b := fun z hz => by
    rcases List.mem_append.mp hz with hz | hz
    · rcases List.mem_cons.mp hz with rfl | hz
      · exact ⟨ha, by omega, by omega⟩
      · have := btw_mem.mp hz
        exact ⟨hin z hz, by omega, by omega⟩
    · rw [List.mem_singleton] at hz
      rw [hz]
      exact ⟨hb, by omega, by omega⟩
  obtain ⟨kx, x1, x2⟩ := k x hx
  obtain ⟨ky, y1, y2⟩ := k y hy
  obtain ⟨w1, w2, w3, w4, t1, t2⟩ := btw_mem.mp hw
  rw [e x w (by omega)] at t1
  rw [e y w (by omega)] at t2
  have hwr := h.fill r hr x kx y ky w w1 w2 t1 (tiedB_symm t2)
  refine btw_mem.mpr ⟨by omega, by omega, w3, w4, ?_, ?_⟩
  · rw [e a w (by omega)]
    exact tiedB_iff.mpr ⟨r, hr, ha, hwr⟩
  · rw [e b w (by omega)]
    exact tiedB_iff.mpr ⟨r, hr, hb, hwr⟩
end LK
/-! all pieces by going on to the end ropes -/
namespace LK
open PySem PySem.Spec PyProof.Rows L2
theorem rope_mem {n : Int} {rows : List (List Int)} {r : Rope} : r ∈ ropesL n rows ↔ ∃ lo hi : Nat, r.1 = lo ∧ r.2.1 = hi ∧ lo < hi ∧ (hi : Int) < n ∧ tiedB rows lo hi = true ∧ r.2.2.Sublist (btw n rows lo hi) := by
  unfold ropesL ropesAll
  rw [srtRopes_mem, List.mem_flatMap]
  constructor
  · rintro ⟨t, ht, hr⟩
    obtain ⟨lo, hi, rfl, h1, h2, h3⟩ := tiesL_in ht
    obtain ⟨A, hA, rfl⟩ := List.mem_map.mp hr
    exact ⟨lo, hi, rfl, rfl, h1, h2, h3, lotsF_sub.mp hA⟩
  · rintro ⟨lo, hi, e1, e2, h1, h2, h3, h4⟩
    refine ⟨_, in_tiesL h1 h2 h3, List.mem_map.mpr ⟨r.2.2, lotsF_sub.mpr h4, ?_⟩⟩
    exact Prod.ext e1.symm (Prod.ext e2.symm rfl)
theorem prsL_mem {l : List Int} {t : List Int} : t ∈ pairsL l ↔ ∃ x ∈ l, ∃ y ∈ l, x < y ∧ t = [x, y] := by
  unfold pairsL
  rw [List.mem_flatMap]
  constructor
  · rintro ⟨x, hx, h⟩
    obtain ⟨y, hy, rfl⟩ := List.mem_map.mp h
    obtain ⟨h1, h2⟩ := List.mem_filter.mp hy
    exact ⟨x, hx, y, h1, by simpa using h2, rfl⟩
  · rintro ⟨x, hx, y, hy, lt, rfl⟩
    exact ⟨x, hx, List.mem_map.mpr ⟨y, List.mem_filter.mpr ⟨hy, by simpa using lt⟩, rfl⟩⟩
theorem pieces_mem {n : Int} {rows : List (List Int)} {r o : Rope} : o ∈ piecesL n rows r ↔ ∃ x ∈ thingsR n rows r, ∃ y ∈ thingsR n rows r, x < y ∧ o = cutR n rows r x y := by
  unfold piecesL
  rw [List.mem_map]
  constructor
  · rintro ⟨t, ht, rfl⟩
    obtain ⟨x, hx, y, hy, lt, rfl⟩ := prsL_mem.mp ht
    exact ⟨x, hx, y, hy, lt, rfl⟩
  · rintro ⟨x, hx, y, hy, lt, rfl⟩
    exact ⟨_, prsL_mem.mpr ⟨x, hx, y, hy, lt, rfl⟩, rfl⟩
theorem lex2 {a b c d : Int} {p q : List Int} (h : a < c ∨ (a = c ∧ b < d)) : a :: b :: p < c :: d :: q := by
  rw [List.cons_lt_cons_iff, List.cons_lt_cons_iff]
  rcases h with h | ⟨h1, h2⟩
  · exact .inl h
  · exact .inr ⟨h1, .inl h2⟩
theorem pairsL_pw {l : List Int} (h : l.Pairwise (· < ·)) : ∀ {k : List Int}, k.Pairwise (· < ·) → (k.flatMap fun x => (l.filter fun y => decide (x < y)).map fun y => [x, y]).Pairwise fun s t => s.getD 0 0 < t.getD 0 0 ∨ (s.getD 0 0 = t.getD 0 0 ∧ s.getD 1 0 < t.getD 1 0)
  | [], _ => List.Pairwise.nil
  | x :: k, hk => by
    obtain ⟨h1, h2⟩ := List.pairwise_cons.mp hk
    rw [List.flatMap_cons]
    refine List.pairwise_append.mpr ⟨?_, pairsL_pw h h2, fun s hs t ht => ?_⟩
    · rw [List.pairwise_map]
      exact (h.filter _).imp fun z => .inr ⟨rfl, z⟩
    · obtain ⟨y, _, rfl⟩ := List.mem_map.mp hs
      obtain ⟨x', hx', ht⟩ := List.mem_flatMap.mp ht
      obtain ⟨y', _, rfl⟩ := List.mem_map.mp ht
      exact .inl (h1 x' hx')
theorem pieces_pw {n : Int} {rows : List (List Int)} {r : Rope} (h : r.1 < r.2.1) : (piecesL n rows r).Pairwise fun a b => ropeRow a < ropeRow b := by
  unfold piecesL pairsL
  rw [List.pairwise_map]
  exact (pairsL_pw (things_asc h) (things_asc h)).imp fun z => lex2 z
theorem pieces_nodup {n : Int} {rows : List (List Int)} {r : Rope} (h : r.1 < r.2.1) : (piecesL n rows r).Nodup := (pieces_pw h).imp fun z e => by
  rw [e] at z
  exact List.lt_irrefl _ z
theorem filter_of_sub {t l : List Int} (h : t.Sublist l) : l.Nodup → (l.filter fun w => decide (w ∈ t)) = t := by
  induction h with
  | slnil => intro _; rfl
  | @cons t l a h ih =>
    intro nd
    obtain ⟨n1, n2⟩ := List.nodup_cons.mp nd
    have : a ∉ t := fun z => n1 (h.subset z)
    rw [List.filter_cons_of_neg (by simpa using this)]
    exact ih n2
  | @cons_cons t l a h ih =>
    intro nd
    obtain ⟨n1, n2⟩ := List.nodup_cons.mp nd
    rw [List.filter_cons_of_pos (by simp)]
    congr 1
    rw [← ih n2]
    refine List.filter_congr fun w hw => ?_
    have : w ≠ a := fun z => n1 (z ▸ hw)
    rw [ih n2]
    simp [this]
/-- a rope is the cut of itself -/
theorem cut_self {n : Int} {rows : List (List Int)} {r : Rope} (h : r ∈ ropesL n rows) : cutR n rows r r.1 r.2.1 = r := by
  obtain ⟨lo, hi, e1, e2, _, _, _, sub⟩ := rope_mem.mp h
  unfold cutR
  refine Prod.ext rfl (Prod.ext rfl ?_)
  show (btw n rows r.1 r.2.1).filter _ = r.2.2
  rw [e1, e2]
  refine filter_of_sub sub ?_
  exact (btw_pw n rows _ _).imp fun h => by omega
theorem things_lo {n : Int} {rows : List (List Int)} {r : Rope} : r.1 ∈ thingsR n rows r := by
  unfold thingsR
  simp
theorem things_hi {n : Int} {rows : List (List Int)} {r : Rope} : r.2.1 ∈ thingsR n rows r := by
  unfold thingsR
  simp
theorem self_piece {n : Int} {rows : List (List Int)} {r : Rope} (h : r ∈ ropesL n rows) : r ∈ piecesL n rows r := by
  obtain ⟨lo, hi, e1, e2, lt, _⟩ := rope_mem.mp h
  exact pieces_mem.mpr ⟨r.1, things_lo, r.2.1, things_hi, by omega, (cut_self h).symm⟩
theorem btw_nd (n : Int) (rows : List (List Int)) (x y : Int) : (btw n rows x y).Nodup := (btw_pw n rows x y).imp fun h => by omega
theorem pieces_len {n : Int} {rows : List (List Int)} (h10 : n ≤ 10) {r : Rope} (h : EndsOk n r) : (piecesL n rows r).length ≤ 100 := by
  have l := things_len (rows := rows) h10 h
  unfold piecesL
  rw [List.length_map]
  have h1 := pairs_len (thingsR n rows r) (thingsR n rows r)
  have h2 : (thingsR n rows r).length * (thingsR n rows r).length ≤ 10 * 10 := Nat.mul_le_mul l l
  unfold pairsL
  omega
theorem thingsT_mem {n : Int} {rows : List (List Int)} {a b x : Int} : x ∈ thingsT n rows a b ↔ x = a ∨ x ∈ btw n rows a b ∨ x = b := by
  unfold thingsT
  simp [or_assoc]
variable {n : Int} {rows B : List (List Int)}
/-- the end ropes of a piece are pieces -/
theorem down_sub (h : Whole n B) (e : TieEq rows B) {r o : Rope} (hr : r ∈ ropesL n rows) (ho : o ∈ piecesL n rows r) {w : Int} (hw : w ∈ btw n rows o.1 o.2.1) : cutR n rows o o.1 w ∈ piecesL n rows r ∧ cutR n rows o w o.2.1 ∈ piecesL n rows r := by
  obtain ⟨lo, hi, e1, e2, lt, _, t, _⟩ := rope_mem.mp hr
  obtain ⟨x, hx, y, hy, xy, rfl⟩ := pieces_mem.mp ho
  have lt' : r.1 < r.2.1 := by omega
  have t' : tiedB rows r.1 r.2.1 = true := by rw [e1, e2]; exact t
  have hw' : w ∈ btw n rows x y := hw
  have tx := whole_cliq h e lt' t' hx hy (by omega)
  have hwr : w ∈ thingsR n rows r := thingsT_mem.mpr (.inr (.inl (whole_sub h e lt' t' hx hy hw')))
  obtain ⟨w1, w2, _⟩ := btw_mem.mp hw'
  have mx : x ∈ thingsT n rows x y := thingsT_mem.mpr (.inl rfl)
  have my : y ∈ thingsT n rows x y := thingsT_mem.mpr (.inr (.inr rfl))
  have mw : w ∈ thingsT n rows x y := thingsT_mem.mpr (.inr (.inl hw'))
  constructor
  · refine pieces_mem.mpr ⟨x, hx, w, hwr, w1, ?_⟩
    exact cut_cut fun z hz => whole_sub h e xy tx mx mw hz
  · refine pieces_mem.mpr ⟨w, hwr, y, hy, w2, ?_⟩
    exact cut_cut fun z hz => whole_sub h e xy tx mw my hz
/-- what holds the rope and with each rope its end ropes holds all pieces -/
theorem down_all (h : Whole n B) (e : TieEq rows B) {r : Rope} (hr : r ∈ ropesL n rows) {L : List Rope} (h1 : r ∈ L) (h2 : ∀ o ∈ L, ∀ w ∈ btw n rows o.1 o.2.1, cutR n rows o o.1 w ∈ L ∧ cutR n rows o w o.2.1 ∈ L) {o : Rope} (ho : o ∈ piecesL n rows r) : o ∈ L := by
  obtain ⟨lo, hi, e1, e2, lt, _, t, _⟩ := rope_mem.mp hr
  obtain ⟨x, hx, y, hy, xy, rfl⟩ := pieces_mem.mp ho
  have lt' : r.1 < r.2.1 := by omega
  have t' : tiedB rows r.1 r.2.1 = true := by rw [e1, e2]; exact t
  have ma : r.1 ∈ thingsT n rows r.1 r.2.1 := thingsT_mem.mpr (.inl rfl)
  have ge : ∀ z ∈ thingsT n rows r.1 r.2.1, r.1 ≤ z := fun z hz => by
    rcases thingsT_mem.mp hz with rfl | hz | rfl
    · omega
    · have := (btw_mem.mp hz).1; omega
    · omega
  have gx := ge x hx
  have s1 : cutR n rows r r.1 y ∈ L := by
    rcases thingsT_mem.mp hy with rfl | hy | rfl
    · omega
    · exact (h2 r h1 y hy).1
    · rw [cut_self hr]
      exact h1
  by_cases c : x = r.1
  · rw [c]
    exact s1
  · have t1 := whole_cliq h e lt' t' ma hy (by omega)
    have t2 := whole_cliq h e lt' t' ma hx (fun z => c z.symm)
    have t3 := whole_cliq h e lt' t' hy hx (by omega)
    have rg : 0 ≤ x ∧ x < n := by
      rcases thingsT_mem.mp hx with z | hx | rfl
      · exact absurd z c
      · have := btw_mem.mp hx; exact ⟨this.2.2.1, this.2.2.2.1⟩
      · omega
    have hb : x ∈ btw n rows r.1 y := btw_mem.mpr ⟨by omega, xy, rg.1, rg.2, t2, t3⟩
    have s2 := (h2 _ s1 x hb).2
    have s3 : cutR n rows (cutR n rows r r.1 y) x y = cutR n rows r x y := cut_cut fun z hz => whole_sub h e (by omega) t1 (thingsT_mem.mpr (.inr (.inl hb))) (thingsT_mem.mpr (.inr (.inr rfl))) hz
    rw [← s3]
    exact s2
theorem isCut_piece {r o : Rope} (hr : r.1 < r.2.1) (ho : o ∈ ropesL n rows) : isCut n rows r o = true ↔ r ∈ piecesL n rows o := by
  obtain ⟨lo, hi, e1, e2, lt, _⟩ := rope_mem.mp ho
  unfold isCut
  rw [pieces_mem]
  constructor
  · intro h
    simp only [Bool.and_eq_true, decide_eq_true_eq] at h
    exact ⟨r.1, h.2.1, r.2.1, h.2.2.1, hr, h.2.2.2.symm⟩
  · rintro ⟨x, hx, y, hy, xy, rfl⟩
    have asc := things_asc (n := n) (rows := rows) (r := o) (by omega)
    have g : ∀ z ∈ thingsR n rows o, o.1 ≤ z ∧ z ≤ o.2.1 := fun z hz => by
      rcases thingsT_mem.mp hz with rfl | hz | rfl
      · omega
      · have := btw_mem.mp hz; omega
      · omega
    have gx := g x hx
    have gy := g y hy
    have c1 : decide ((cutR n rows o x y).1 < o.1) = false := decide_eq_false (by show ¬ x < o.1; omega)
    have c2 : decide (o.2.1 < (cutR n rows o x y).2.1) = false := decide_eq_false (by show ¬ o.2.1 < y; omega)
    rw [c1, c2]
    simp only [Bool.or_self, Bool.not_false, Bool.true_and, Bool.and_eq_true, decide_eq_true_eq]
    exact ⟨hx, hy, rfl⟩
end LK
/-! a tuple of rows in a tuple of such -/
namespace LK
open PySem PySem.Spec PyProof.Rows L2
theorem canLay_sets : ∀ TS : List (List (List Int)), PyData.canLayAll0 (TS.map fun T => PyData.tuple (T.map dTup)) = true
  | [] => rfl
  | T :: TS => by
    rw [List.map_cons, PyData.canLayAll0, canLay_sets TS, Bool.and_true]
    exact canLay_rows T
theorem depth_sets : ∀ TS : List (List (List Int)), PyData.depthAll (TS.map fun T => PyData.tuple (T.map dTup)) ≤ 2
  | [] => Nat.zero_le _
  | T :: TS => by
    rw [List.map_cons, PyData.depthAll]
    have h1 := depth_sets TS
    have h2 := depth_rows T
    have h3 : PyData.depth (.tuple (T.map dTup)) = PyData.depthAll (T.map dTup) + 1 := by rw [PyData.depth]
    omega
theorem shaped_sets (TS : List (List (List Int))) : SeqAt.shaped (.tuple (TS.map fun T => PyData.tuple (T.map dTup))) = true := by
  unfold SeqAt.shaped
  have h1 : PyData.canLay0 (.tuple (TS.map fun T => PyData.tuple (T.map dTup))) = true := canLay_sets TS
  have h2 := depth_sets TS
  have h3 : PyData.depth (.tuple (TS.map fun T => PyData.tuple (T.map dTup))) = PyData.depthAll (TS.map fun T => PyData.tuple (T.map dTup)) + 1 := by rw [PyData.depth]
  rw [h1, decide_eq_true (by omega)]
  rfl
theorem any_setsB : ∀ (TS : List (List (List Int))) (S : List (List Int)), ((TS.map fun T => PyData.tuple (T.map dTup)).any fun z => PyData.eqv z (.tuple (S.map dTup))) = decide (S ∈ TS)
  | [], S => by simp
  | T :: TS, S => by
    rw [List.map_cons, List.any_cons, any_setsB TS S, eqv_tups]
    by_cases c : T = S
    · subst c
      simp
    · have c2 : ¬ S = T := fun h => c h.symm
      simp [c, c2]
def rInRR (K : PySem.W.Frag) : R2 := fun x y H Q => ∃ (S : List (List Int)) (TS : List (List (List Int))), Rp K H x (.tuple (S.map dTup)) ∧ Rp K H y (.tuple (TS.map fun T => PyData.tuple (T.map dTup))) ∧ Q (.bl (decide (S ∈ TS))) H
theorem inRR {X : Cx} (K : PySem.W.Frag) (hu : X.A.units + 65 < cLine) (hK : X.K = K := by rfl) : OpR X (compareOp .In) (rInRR K) := by
  subst hK
  intro pn st σ H one many v u Q inv h1 h2 way
  obtain ⟨r, T, hd, he, q⟩ := way
  obtain ⟨as, r1⟩ := Dp.reads inv _ one v hd.dp h1
  obtain ⟨bs, r2⟩ := Dp.reads inv _ many u he.dp h2
  refine SeqAt.in_tuple_reads r2 r1 (SeqAt.canLay_of_shaped (shaped_sets T)) (SeqAt.canLay_of_shaped (shaped_rows r)) (room_in_shaped (shaped_rows r) hu) ⟨.bl _, H, inv, rfl, ?_⟩
  rw [any_setsB]
  exact q
end LK
/-! a rope in a list or a tuple of ropes -/
namespace LK
open PySem PySem.Spec PyProof.Rows L2
theorem canLay_ropes : ∀ R : List Rope, PyData.canLayAll0 (R.map dRope) = true
  | [] => rfl
  | r :: R => by
    rw [List.map_cons, PyData.canLayAll0, canLay_ropes R, Bool.and_true]
    exact canLay_rope r
theorem depth_ropes : ∀ R : List Rope, PyData.depthAll (R.map dRope) ≤ 2
  | [] => Nat.zero_le _
  | r :: R => by
    rw [List.map_cons, PyData.depthAll]
    have h1 := depth_ropes R
    have h2 := depth_rope r
    omega
theorem shaped_ropesT (R : List Rope) : SeqAt.shaped (.tuple (R.map dRope)) = true := by
  unfold SeqAt.shaped
  have h1 : PyData.canLay0 (.tuple (R.map dRope)) = true := canLay_ropes R
  have h2 := depth_ropes R
  have h3 : PyData.depth (.tuple (R.map dRope)) = PyData.depthAll (R.map dRope) + 1 := by rw [PyData.depth]
  rw [h1, decide_eq_true (by omega)]
  rfl
theorem shaped_ropesL (R : List Rope) : SeqAt.shaped (.list (R.map dRope)) = true := by
  unfold SeqAt.shaped
  have h1 : PyData.canLay0 (.list (R.map dRope)) = true := canLay_ropes R
  have h2 := depth_ropes R
  have h3 : PyData.depth (.list (R.map dRope)) = PyData.depthAll (R.map dRope) + 1 := by rw [PyData.depth]
  rw [h1, decide_eq_true (by omega)]
  rfl
theorem any_ropes : ∀ (R : List Rope) (r : Rope), ((R.map dRope).any fun z => PyData.eqv z (dRope r)) = decide (r ∈ R)
  | [], r => by simp
  | t :: R, r => by
    rw [List.map_cons, List.any_cons, any_ropes R r, eqv_rope]
    by_cases c : t = r
    · subst c
      simp
    · have c2 : ¬ r = t := fun h => c h.symm
      simp [c, c2]
/-- r in a list of ropes -/
def rInRo (K : PySem.W.Frag) (neg : Bool) : R2 := fun x y H Q => ∃ (r : Rope) (R : List Rope), Rp K H x (dRope r) ∧ Rp K H y (.list (R.map dRope)) ∧ Q (.bl (if neg then !decide (r ∈ R) else decide (r ∈ R))) H
theorem inRo {X : Cx} (K : PySem.W.Frag) (hu : X.A.units + 65 < cLine) (hK : X.K = K := by rfl) : OpR X (compareOp .In) (rInRo K false) := by
  subst hK
  intro pn st σ H x y v u Q I r1 r2 ⟨r, R, hd, he, q⟩
  refine op_inD hu pn st σ H x y v u Q I r1 r2 ⟨_, _, hd.dp, he.dp, shaped_rope r, shaped_ropesL R, ?_⟩
  rw [any_ropes]
  exact q
theorem notInRo {X : Cx} (K : PySem.W.Frag) (hu : X.A.units + 65 < cLine) (hK : X.K = K := by rfl) : OpR X (compareOp .NotIn) (rInRo K true) := by
  subst hK
  intro pn st σ H x y v u Q I r1 r2 ⟨r, R, hd, he, q⟩
  refine op_notInD hu pn st σ H x y v u Q I r1 r2 ⟨_, _, hd.dp, he.dp, shaped_rope r, shaped_ropesL R, ?_⟩
  rw [any_ropes]
  exact q
/-- r in a tuple of ropes -/
def rInRoT (K : PySem.W.Frag) : R2 := fun x y H Q => ∃ (r : Rope) (R : List Rope), Rp K H x (dRope r) ∧ Rp K H y (.tuple (R.map dRope)) ∧ Q (.bl (decide (r ∈ R))) H
theorem inRoT {X : Cx} (K : PySem.W.Frag) (hu : X.A.units + 65 < cLine) (hK : X.K = K := by rfl) : OpR X (compareOp .In) (rInRoT K) := by
  subst hK
  intro pn st σ H one many v u Q inv h1 h2 way
  obtain ⟨r, R, hd, he, q⟩ := way
  obtain ⟨as, r1⟩ := Dp.reads inv _ one v hd.dp h1
  obtain ⟨bs, r2⟩ := Dp.reads inv _ many u he.dp h2
  refine SeqAt.in_tuple_reads r2 r1 (SeqAt.canLay_of_shaped (shaped_ropesT R)) (SeqAt.canLay_of_shaped (shaped_rope r)) (room_in_shaped (shaped_rope r) hu) ⟨.bl _, H, inv, rfl, ?_⟩
  rw [any_ropes]
  exact q
end LK
namespace LK
open PySem PySem.Spec PyProof.Rows L2
theorem MidsAt.same {K : PySem.W.Frag} {P : Program} {w : World} {H H' : Hp} {d : Addr} {n : Int} {rows : List (List Int)} {ks : KDs (Int × Int)} (h : MidsAt K P w H d n rows ks) (s : Same H H') : MidsAt K P w H' d n rows ks :=
  ⟨s _ _ h.at_, h.keys, h.kk.same s, fun a b hab => by
    obtain ⟨p, h1, h2⟩ := h.vals a b hab
    exact ⟨p, h1, h2.same s⟩⟩
theorem midKeys_of {n : Int} {rows : List (List Int)} {x y : Int} (h0 : 0 ≤ x) (h1 : x < y) (h2 : y < n) (h3 : tiedB rows x y = true) : (x, y) ∈ midKeys n rows := by
  have e1 : x = (x.toNat : Int) := by omega
  have e2 : y = (y.toNat : Int) := by omega
  rw [e1, e2] at h3
  refine List.mem_map.mpr ⟨_, in_tiesL (n := n) (lo := x.toNat) (hi := y.toNat) (by omega) (by omega) h3, ?_⟩
  show (((x.toNat : Nat) : Int), ((y.toNat : Nat) : Int)) = (x, y)
  rw [← e1, ← e2]
/-- what is known of the ends of a piece -/
theorem piece_ends {n : Int} {rows B : List (List Int)} (h : Whole n B) (e : TieEq rows B) {r o : Rope} (hr : r ∈ ropesL n rows) (ho : o ∈ piecesL n rows r) : 0 ≤ o.1 ∧ o.1 < o.2.1 ∧ o.2.1 < n ∧ tiedB rows o.1 o.2.1 = true := by
  obtain ⟨lo, hi, e1, e2, lt, hn, t, _⟩ := rope_mem.mp hr
  obtain ⟨x, hx, y, hy, xy, rfl⟩ := pieces_mem.mp ho
  have g : ∀ z ∈ thingsR n rows r, 0 ≤ z ∧ z < n := fun z hz => by
    rcases thingsT_mem.mp hz with rfl | hz | rfl
    · omega
    · have := btw_mem.mp hz; omega
    · omega
  have ne : x ≠ y := by omega
  have lt' : r.1 < r.2.1 := by omega
  exact ⟨(g x hx).1, xy, (g y hy).2, whole_cliq h e lt' (by rw [e1, e2]; exact t) hx hy ne⟩
def spGrown (K : PySem.W.Frag) (P : Program) (w : World) : Sp := fun vs H Q _ => ∃ (d : Addr) (v : V) (n : Int) (rows B : List (List Int)) (ks : KDs (Int × Int)) (r : Rope), vs = [.ref d, v] ∧ MidsAt K P w H d n rows ks ∧ BookW n rows B ∧ r ∈ ropesL n rows ∧ Rp K H v (dRope r) ∧ ∀ p ys H', Same H H' → H p = none → H' p = some (.lst ys) → RpAll K H' ys ((piecesL n rows r).map dRope) → Q (.ref p) H'
section
variable {P : Program} {w : World} {K : PySem.W.Frag} {mg : Str → Option Value} {base : Heap} {ad : Nat → Addr} {fd : Nat → FuncData}
theorem ok__law_grown_down (T : Txt K mg ad fd) : FnOk P w K mg base CX0 1 (ad 48) (fd 48) ["_law_mids", "_law_rope"] (spGrown K P w) := by
  refine T.F__law_grown_down.ok sc__law_grown_down (fun vs H Q E h => ?_) (fun cdv A outer s H vs Q E hr h => ?_)
  · obtain ⟨d, v, n, rows, B, ks, r, rfl, _⟩ := h
    rfl
  · obtain ⟨d, v, n, rows, B, ks, r, rfl, hm, hB, hrope, hv, k⟩ := h
    refine ⟨_, (pss_cons (ps_set (i := 2) sc__law_grown_down.nd rfl (Or.inl rfl) (pe_lst (pa_cons (pv 1) pa_nil)))
  (pss_cons (ps_for PassesOwn.never rfl (pi_range1 rfl T.g_range (pa_cons pe_int pa_nil)) (pg_name (i := 3) (x := "_law_k") sc__law_grown_down.nd rfl (Or.inl rfl))
  (pss_cons (ps_if (pt_cmpR op_eq (pv 3) (pe_callB (lenS K) (by rfl) T.g_len (by decide +kernel) (pa_cons (pv 2) pa_nil)) (nomark _)) (pss_one (ps_ret (pe_callB (srtRo K (hu65 hr)) (by rfl) T.g_sorted (by decide +kernel) (pa_cons (pv 2) pa_nil))))
  pss_nil)
  (pss_cons (ps_asg (pe_ix (ixL K) (pv 2) (pv 3) (fun _ _ => rfl)) (pg_tup rfl (pgs_cons (pg_name (i := 5) (x := "_law_low") sc__law_grown_down.nd rfl (Or.inl rfl)) (pgs_cons (pg_name (i := 6) (x := "_law_high") sc__law_grown_down.nd rfl (Or.inl rfl)) (pgs_cons (pg_name (i := 7) (x := "_law_ahead") sc__law_grown_down.nd rfl (Or.inr rfl)) pgs_nil)))))
  (pss_one (ps_for PassesOwn.never rfl (piT K (pe_kdget pairK K P w (hu65 hr) (pv 0) (pe_tup (pa_cons (pv 5) (pa_cons (pv 6) pa_nil))) (fun _ _ => rfl))) (pg_name (i := 4) (x := "_law_w") sc__law_grown_down.nd rfl (Or.inl rfl))
  (pss_one (ps_for PassesOwn.never rfl (piL K (pe_lst (pa_cons (pe_tup (pa_cons (pv 5) (pa_cons (pv 4) pa_nil))) (pa_cons (pe_tup (pa_cons (pv 4) (pa_cons (pv 6) pa_nil))) pa_nil)))) (pg_name (i := 8) (x := "_law_tie") sc__law_grown_down.nd rfl (Or.inl rfl))
  (pss_cons (ps_set (i := 9) sc__law_grown_down.nd rfl (Or.inl rfl) (pe_tup (pa_cons (pe_ix (ixT K) (pv 8) pe_int (fun _ _ => rfl)) (pa_cons (pe_ix (ixT K) (pv 8) pe_int (fun _ _ => rfl)) (pa_cons (pe_callTy (tupOf K) (by rfl) T.g_tuple (by decide +kernel) (pa_cons (pe_lc (own := [("_law_x", 10)]) (g := gName 10) rfl sc__law_grown_down.nd (piT K (pe_kdget pairK K P w (hu65 hr) (pv 0) (pv 8) (fun _ _ => rfl))) (blkOk_by (N := ["_law_mids", "_law_rope", "_law_out", "_law_k", "_law_w", "_law_low", "_law_high", "_law_ahead", "_law_tie", "_law_end", "_law_x"]) (sc := defScope s__law_grown_down) (by decide +kernel)) (fun _ _ _ _ _ => (pg_name (i := 10) (x := "_law_x") sc__law_grown_down.nd rfl (Or.inl rfl))) (fun _ _ _ _ _ => (pts_one (pt_cmpR (inS K) (pv 10) (pv 7) (by with_unfolding_all rfl)))) (fun _ _ _ _ _ => (pv 10))) pa_nil)) pa_nil)))))
  (pss_one (ps_if (pt_cmpR (notInRo K (hu65 hr)) (pv 9) (pv 2) (by with_unfolding_all rfl)) (pss_one (ps_expr (pe_bmK K PySem.F.plainAttrs_list PySem.F.slot_list_append PySem.F.type_list_append mt_append (pv 2) (pa_cons (pv 9) pa_nil))))
  pss_nil))))))))))
  (pss_one (ps_ret (pe_callB (srtRo K (hu65 hr)) (by rfl) T.g_sorted (by decide +kernel) (pa_cons (pv 2) pa_nil)))))), ?_⟩
    have rlt : r.1 < r.2.1 := by
      obtain ⟨lo, hi, e1, e2, lt, _⟩ := rope_mem.mp hrope
      omega
    have hE : EndsOk n r := ropesL_ends hrope
    have lpc := pieces_len (rows := rows) hB.n10 hE
    have lenL : ∀ L : List Rope, L.Nodup → (∀ o ∈ L, o ∈ piecesL n rows r) → L.length ≤ 100 := fun L nd sub => Nat.le_trans (nodup_leG nd sub) lpc
    refine ⟨_, rfl, (by show 1 ≤ sizeLine; decide), fun O hO => ?_⟩
    have sO := same_upd (o := .lst [v]) hO
    refine ⟨200, rfl, by decide, by decide, ?_⟩
    refine for_range (lo := 0) (n := 200) (fun i σ H1 => ∃ (os : List V) (L : List Rope) (v3 v4 v5 v6 v7 v8 v9 : Option V), σ = [some (.ref d), some v, some (.ref O), v3, v4, v5, v6, v7, v8, v9, none] ∧ Fill H O H1 os ∧ RpAll K H1 os (L.map dRope) ∧ L.Nodup ∧ r ∈ L ∧ (∀ o ∈ L, o ∈ piecesL n rows r) ∧ i ≤ L.length ∧ ∀ o ∈ L.take i, ∀ w ∈ btw n rows o.1 o.2.1, cutR n rows o o.1 w ∈ L ∧ cutR n rows o w o.2.1 ∈ L)
      ⟨[v], [r], _, _, _, _, _, _, _, rfl, ⟨sO, upd_same⟩, .one (hv.same sO), by simp, by simp, fun o ho => by rw [List.mem_singleton] at ho; rw [ho]; exact self_piece hrope, Nat.zero_le _, fun o ho => by cases ho⟩ (fun i σ H1 hi ⟨os, L, v3, v4, v5, v6, v7, v8, v9, e1, fl, ro, nd, hrL, hsub, hiL, hcl⟩ => ?_) (fun σ H1 ⟨os, L, v3, v4, v5, v6, v7, v8, v9, e1, fl, ro, nd, hrL, hsub, hiL, hcl⟩ => ?_)
    · subst e1
      have los := ro.length
      rw [List.length_map] at los
      have l100 := lenL L nd hsub
      refine ⟨_, rfl, _, rfl, O, _, rfl, .inl (SqL.of fl.2), rfl, _, rfl, ?_⟩
      show if decide (V.int (0 + (i : Int)) = V.int ((os.length : Nat) : Int)) = true then _ else _
      cases cc : decide (V.int (0 + (i : Int)) = V.int ((os.length : Nat) : Int)) with
      | true =>
        have ei : i = L.length := by
          have := of_decide_eq_true cc
          injection this with this
          omega
        refine iteT ⟨_, rfl, O, os, L, rfl, SqL.of fl.2, ro, fun zs p lz rz hp => ?_⟩
        have sp := same_upd (o := .lst zs) hp
        have eS : srtRopes L = piecesL n rows r := by
          refine ropes_ext (srtRopes_pw nd) (pieces_pw rlt) fun o => ?_
          rw [srtRopes_mem]
          refine ⟨hsub o, fun ho => ?_⟩
          refine down_all hB.wh hB.te hrope hrL (fun o ho => ?_) ho
          rw [ei, List.take_length] at hcl
          exact hcl o ho
        rw [eS] at rz
        refine k p zs _ (fl.1.trans sp) ?_ upd_same (rz.same sp)
        cases e : H p with
        | none => rfl
        | some u => exact absurd ((fl.1 _ _ e).symm.trans hp) (by simp)
      | false =>
        have hne : i ≠ L.length := fun z => by
          have := of_decide_eq_false cc
          exact this (by congr 1; omega)
        have hil : i < L.length := by omega
        refine iteF ?_
        obtain ⟨o, ho⟩ : ∃ o, L[i]? = some o := ⟨_, List.getElem?_eq_getElem hil⟩
        have hoL := List.mem_of_getElem? ho
        obtain ⟨x, hx⟩ : ∃ x, os[i]? = some x := ⟨_, List.getElem?_eq_getElem (by omega)⟩
        obtain ⟨dd, hd, rx⟩ := ro.get hx
        rw [List.getElem?_map, ho] at hd
        have hd : dRope o = dd := Option.some.inj hd
        subst hd
        obtain ⟨ox, oc, rfl, sx, tc⟩ := rp_rope rx
        have hop := hsub o hoL
        obtain ⟨o0, olt, on, ot⟩ := piece_ends hB.wh hB.te hrope hop
        refine ⟨_, rfl, _, rfl, O, _, _, _, rfl, rfl, SqL.of fl.2, at_of (j := i) (by omega) hx, ?_⟩
        refine ⟨ox, _, rfl, sx, rfl, _, _, rfl, _, _, rfl, _, _, rfl, rfl, ?_⟩
        -- what lies between the ends of this piece
        obtain ⟨pv, hpv, tpv0⟩ := hm.vals o.1 o.2.1 (midKeys_of o0 olt on ot)
        have tpv := tpv0.same fl.1
        have hm1 := hm.same fl.1
        have lbt := btw_len (rows := rows) hB.n10 (x := o.1) (y := o.2.1) o0 on
        refine ⟨_, rfl, _, rfl, _, rfl, (by show 2 ≤ sizeLine; decide), fun q hq => ?_⟩
        have sq := same_upd (o := .tup [V.int o.1, .int o.2.1]) hq
        have rq : Rp K (upd H1 q (.tup [V.int o.1, .int o.2.1])) (.ref q) (pairK.enc (o.1, o.2.1)) := TupI.rp (ns := [o.1, o.2.1]) ⟨SqT.of upd_same, by show 2 ≤ 1000; decide⟩
        have fl2 : Fill H O (upd H1 q (.tup [V.int o.1, .int o.2.1])) os := ⟨fl.1.trans sq, fl.at sq⟩
        generalize upd H1 q (.tup [V.int o.1, .int o.2.1]) = H2 at sq rq fl2 ⊢
        refine ⟨d, q, ks, (o.1, o.2.1), .ref pv, rfl, rfl, .inl (hm1.same sq).at_, (hm1.same sq).kk, rq, hpv, ?_⟩
        obtain ⟨bt, ebt⟩ : ∃ bt, bt = btw n rows o.1 o.2.1 := ⟨_, rfl⟩
        have tpv2 := tpv.same sq
        have tc2 : TupI K (hide O H2) oc o.2.2 := ⟨seqT_hide fl2.2 (tc.same sq).1, tc.2⟩
        rw [← ebt] at tpv2 lbt
        have take1 : ∀ L', (L ++ L').take (i + 1) = L.take i ++ [o] := fun L' => by
          rw [List.take_append_of_le_length (by omega), List.take_succ, ho]
          rfl
        refine ⟨pv, rfl, ⟨_, tpv2.1⟩, for_tup (K := K) (a := pv) (xs := bt.map V.int) (fun j σ H3 => ∃ (os : List V) (L' : List Rope) (v4 v8 v9 : Option V), σ = [some (.ref d), some v, some (.ref O), some (.int (0 + (i : Int))), v4, some (.int o.1), some (.int o.2.1), some (.ref oc), v8, v9, none] ∧ Same (hide O H2) (hide O H3) ∧ Fill H O H3 os ∧ RpAll K H3 os ((L ++ L').map dRope) ∧ (L ++ L').Nodup ∧ (∀ o ∈ L ++ L', o ∈ piecesL n rows r) ∧ ∀ w ∈ bt.take j, cutR n rows o o.1 w ∈ L ++ L' ∧ cutR n rows o w o.2.1 ∈ L ++ L') ⟨os, [], _, _, _, rfl, Same.refl _, fl2, by rw [List.append_nil]; exact ro.same sq, by rw [List.append_nil]; exact nd, by rw [List.append_nil]; exact hsub, fun w hw => by cases hw⟩ (fun j σ H3 _ ⟨_, _, _, _, _, _, _, fl3, _⟩ => seqT fl3.1 tpv0.1 |> fun h => by rw [ebt]; exact h) (fun j z σ H3 hz ⟨os, L', v4, v8, v9, e1, s3, fl3, ro3, nd3, sub3, cl3⟩ => ?_) (fun σ H3 ⟨os, L', v4, v8, v9, e1, s3, fl3, ro3, nd3, sub3, cl3⟩ => ?_)⟩
        · subst e1
          obtain ⟨w, hw, rfl⟩ := intAt hz
          have hwb : w ∈ btw n rows o.1 o.2.1 := ebt ▸ List.mem_of_getElem? hw
          obtain ⟨w1, w2, w3, w4, t1, t2⟩ := btw_mem.mp hwb
          have dn := down_sub hB.wh hB.te hrope hop hwb
          refine ⟨_, rfl, _, rfl, (by show 2 ≤ sizeLine; decide), fun q1 hq1 => ?_⟩
          have sq1 := same_upd (o := .tup [V.int o.1, .int w]) hq1
          have g1 : upd H3 q1 (.tup [V.int o.1, .int w]) q1 = some (.tup [V.int o.1, .int w]) := upd_same
          generalize upd H3 q1 (.tup [V.int o.1, .int w]) = H4 at sq1 g1 ⊢
          refine ⟨_, rfl, _, rfl, (by show 2 ≤ sizeLine; decide), fun q2 hq2 => ?_⟩
          have sq2 := same_upd (o := .tup [V.int w, .int o.2.1]) hq2
          have g2 : upd H4 q2 (.tup [V.int w, .int o.2.1]) q2 = some (.tup [V.int w, .int o.2.1]) := upd_same
          generalize upd H4 q2 (.tup [V.int w, .int o.2.1]) = H5 at sq2 g2 ⊢
          refine ⟨(by show 2 ≤ sizeLine; decide), fun L0 hL0 => ?_⟩
          have sl0 := same_upd (o := .lst [V.ref q1, .ref q2]) hL0
          have gl0 : upd H5 L0 (.lst [V.ref q1, .ref q2]) L0 = some (.lst [V.ref q1, .ref q2]) := upd_same
          have s36 := (sq1.trans sq2).trans sl0
          have g1 := (sq2.trans sl0) _ _ g1
          have g2 := sl0 _ _ g2
          have fO := (sq1.trans sq2) _ _ fl3.2
          have L0O : L0 ≠ O := fun z => by rw [z, fO] at hL0; cases hL0
          generalize upd H5 L0 (.lst [V.ref q1, .ref q2]) = H6 at sl0 gl0 s36 g1 g2 ⊢
          have fO6 := s36 _ _ fl3.2
          have tg : ∀ (m : Nat) (x : V), [V.ref q1, V.ref q2][m]? = some x → ∃ t a b, x = .ref t ∧ TupI K (hide O H6) t [a, b] ∧ [(o.1, w), (w, o.2.1)][m]? = some (a, b) ∧ 0 ≤ a ∧ a < b ∧ b < n ∧ tiedB rows a b = true ∧ cutR n rows o a b ∈ piecesL n rows r := fun m x hx => by
            match m, hx with
            | 0, hx =>
              cases hx
              exact ⟨q1, _, _, rfl, ⟨seqT_hide fO6 (SqT.of g1), by show 2 ≤ 1000; decide⟩, rfl, o0, w1, w4, t1, dn.1⟩
            | 1, hx =>
              cases hx
              exact ⟨q2, _, _, rfl, ⟨seqT_hide fO6 (SqT.of g2), by show 2 ≤ 1000; decide⟩, rfl, w3, w2, on, tiedB_symm t2, dn.2⟩
            | m + 2, hx => simp at hx
          have gl0h : (hide O H6) L0 = some (.lst [V.ref q1, .ref q2]) := by rw [hide_ne L0O]; exact gl0
          refine ⟨L0, rfl, ⟨_, SqL.of gl0⟩, for_list (K := K) (a := L0) (xs := [V.ref q1, .ref q2]) (fun m σ H7 => ∃ (os : List V) (L' : List Rope) (v8 v9 : Option V), σ = [some (.ref d), some v, some (.ref O), some (.int (0 + (i : Int))), some (.int w), some (.int o.1), some (.int o.2.1), some (.ref oc), v8, v9, none] ∧ Same (hide O H6) (hide O H7) ∧ Fill H O H7 os ∧ RpAll K H7 os ((L ++ L').map dRope) ∧ (L ++ L').Nodup ∧ (∀ o ∈ L ++ L', o ∈ piecesL n rows r) ∧ (∀ w ∈ bt.take j, cutR n rows o o.1 w ∈ L ++ L' ∧ cutR n rows o w o.2.1 ∈ L ++ L') ∧ ∀ t ∈ [(o.1, w), (w, o.2.1)].take m, cutR n rows o t.1 t.2 ∈ L ++ L') ⟨os, L', _, _, rfl, Same.refl _, ⟨fl3.1.trans s36, fO6⟩, ro3.same s36, nd3, sub3, cl3, fun t ht => by cases ht⟩ (fun m σ H7 _ ⟨_, _, _, _, _, s7, _⟩ => SqL.of (hide_same O H7 _ _ (s7 _ _ gl0h))) (fun m x σ H7 hx ⟨os, L', v8, v9, e1, s7, fl7, ro7, nd7, sub7, cl7, ct7⟩ => ?_) (fun σ H7 ⟨os, L', v8, v9, e1, s7, fl7, ro7, nd7, sub7, cl7, ct7⟩ => ?_)⟩
          · subst e1
            obtain ⟨t, a, b, rfl, tt0, em, a0, ab, bn, tab, cpc⟩ := tg m x hx
            have s7h := s7.trans (hide_same O H7)
            have tt := tt0.same s7h
            have hm7 := hm.same fl7.1
            obtain ⟨p2, hp2, tp0⟩ := hm.vals a b (midKeys_of a0 ab bn tab)
            have tp := tp0.same fl7.1
            have tcx := (tc2.same (s3.trans (hide_mono s36))).same s7h
            have lb2 := btw_len (rows := rows) hB.n10 (x := a) (y := b) a0 bn
            have ecut : (cutR n rows o a b).2.2 = (btw n rows a b).filter fun w => decide (w ∈ o.2.2) := rfl
            obtain ⟨b2, eb2⟩ : ∃ b2, b2 = btw n rows a b := ⟨_, rfl⟩
            rw [← eb2] at tp lb2 ecut
            refine ⟨_, rfl, t, _, 0, _, rfl, rfl, tt.1, rfl, _, rfl, t, _, 1, _, rfl, rfl, tt.1, rfl, _, rfl, _, rfl, d, t, ks, (a, b), .ref p2, rfl, rfl, .inl hm7.at_, hm7.kk, tt.rp, hp2, p2, rfl, ⟨_, tp.1⟩, fun D hD => ?_⟩
            refine lcT (K := K) (xs := b2.map V.int) (fun m => decide (b2.getD m 0 ∈ o.2.2)) (fun m => .int (b2.getD m 0)) hD tp.1 (by rw [List.length_map]; omega) (fun _ _ _ => rfl) (fun m2 z H8 hj s8 Q1 Q2 k1 k2 => ?_) (fun zs H8 s8 hz8 rz => ?_)
            · obtain ⟨y, hy, rfl⟩ := intAt hj
              have ey : b2.getD m2 0 = y := by rw [List.getD_eq_getElem?_getD, hy]; rfl
              rw [ey] at k1 k2
              have tc8 := tcx.same s8
              refine ⟨rfl, _, rfl, _, rfl, oc, _, rfl, .inr tc8.1, rfl, flat_ints _, ?_⟩
              refine ⟨_, rfl, ?_⟩
              rw [inV_int]
              show if decide (y ∈ o.2.2) = true then _ else _
              cases c8 : decide (y ∈ o.2.2) with
              | false => exact iteF (k2 c8 _ (Same.refl _))
              | true => exact iteT ⟨_, rfl, k1 c8 _ _ (Same.refl _) (.int y)⟩
            · rw [List.length_map, filter_map_range (fun y : Int => decide (y ∈ o.2.2)) (fun y : Int => PyData.int y) 0 b2] at rz
              have ez := RpAll.ofInts (ns := b2.filter fun y => decide (y ∈ o.2.2)) rz
              subst ez
              rw [← ecut] at hz8
              have lcut : (cutR n rows o a b).2.2.length ≤ 1000 := by
                rw [ecut]
                have := List.length_filter_le (fun y => decide (y ∈ o.2.2)) b2
                omega
              obtain ⟨ct, ect⟩ : ∃ ct, ct = cutR n rows o a b := ⟨_, rfl⟩
              have ec1 : ct.1 = a := by rw [ect]; rfl
              have ec2 : ct.2.1 = b := by rw [ect]; rfl
              rw [← ect] at hz8 lcut cpc
              dsimp only [tNil]
              refine tupL_use (SqL.of hz8) fun pp H9 s9 hpp => ?_
              refine ⟨(by show 3 ≤ sizeLine; decide), fun q3 hq3 => ?_⟩
              have s79 := s8.trans s9
              have sq3 := same_upd (o := .tup [V.int a, .int b, .ref pp]) hq3
              have rq3 : Rp K (upd H9 q3 (.tup [V.int a, .int b, .ref pp])) (.ref q3) (dRope ct) := .tup (SqT.of upd_same) (by show 3 ≤ 1000; decide) (.cons (by rw [ec1]; exact .int a) (.two (by rw [ec2]; exact .int b) (TupI.rp ⟨seqT sq3 hpp, lcut⟩)))
              have s710 := s79.trans sq3
              generalize upd H9 q3 (.tup [V.int a, .int b, .ref pp]) = HA at rq3 s710 ⊢
              have roA := ro7.same s710
              have flA : Fill H O HA os := ⟨fl7.1.trans s710, s710 _ _ fl7.2⟩
              have losA := roA.length
              rw [List.length_map] at losA
              have lA := lenL _ nd7 sub7
              refine ⟨_, rfl, _, rfl, ct, L ++ L', rq3, .lst (SqL.of flA.2) (by omega) roA, ?_⟩
              refine ⟨_, rfl, ?_⟩
              show if (!decide (ct ∈ L ++ L')) = true then _ else _
              cases cin : decide (ct ∈ L ++ L') with
              | true =>
                refine iteF ⟨os, L', _, _, rfl, s7.trans (hide_mono s710), flA, roA, nd7, sub7, cl7, fun t ht => ?_⟩
                rw [List.take_succ, em] at ht
                rcases List.mem_append.mp ht with ht | ht
                · exact ct7 t ht
                · have ht : t = (a, b) := by simpa using ht
                  rw [ht, ← ect]
                  exact of_decide_eq_true cin
              | false =>
                have cin := of_decide_eq_false cin
                refine iteT ⟨_, rfl, .inl ⟨rfl, _, SqL.of flA.2⟩, _, rfl, O, _, _, rfl, rfl, flA.2, Nat.lt_of_lt_of_le (by omega : os.length < 2000) (by decide), ?_⟩
                have eA : L ++ (L' ++ [ct]) = (L ++ L') ++ [ct] := (List.append_assoc _ _ _).symm
                refine ⟨os ++ [.ref q3], L' ++ [ct], _, _, rfl, ?_, flA.push hO (Same.refl _), ?_, ?_, fun o ho => ?_, fun w hw => ?_, fun t ht => ?_⟩
                · rw [hide_upd_self]
                  exact s7.trans (hide_mono s710)
                · rw [eA, List.map_append]
                  refine RpAll.upd flA.2 ?_ (roA.app (.one rq3))
                  have := noLs_ropes ((L ++ L') ++ [ct])
                  rw [List.map_append] at this
                  exact this
                · rw [eA]
                  refine List.nodup_append.mpr ⟨nd7, by simp, fun x hx y hy e => ?_⟩
                  rw [List.mem_singleton] at hy
                  rw [e, hy] at hx
                  exact cin hx
                · rw [eA] at ho
                  rcases List.mem_append.mp ho with ho | ho
                  · exact sub7 o ho
                  · rw [List.mem_singleton] at ho
                    rw [ho]
                    exact cpc
                · rw [eA]
                  have := cl7 w hw
                  exact ⟨List.mem_append_left _ this.1, List.mem_append_left _ this.2⟩
                · rw [eA]
                  rw [List.take_succ, em] at ht
                  rcases List.mem_append.mp ht with ht | ht
                  · exact List.mem_append_left _ (ct7 t ht)
                  · have ht : t = (a, b) := by simpa using ht
                    rw [ht, ← ect]
                    simp
          · subst e1
            refine ⟨os, L', _, _, _, rfl, (s3.trans (hide_mono s36)).trans s7, fl7, ro7, nd7, sub7, fun w' hw' => ?_⟩
            rw [List.take_succ, hw] at hw'
            rcases List.mem_append.mp hw' with hw' | hw'
            · exact cl7 w' hw'
            · have hw' : w' = w := by simpa using hw'
              rw [hw']
              exact ⟨ct7 (o.1, w) (by simp), ct7 (w, o.2.1) (by simp)⟩
        · subst e1
          rw [List.length_map, List.take_length] at cl3
          refine ⟨os, L ++ L', _, _, _, _, _, _, _, rfl, fl3, ro3, nd3, List.mem_append_left _ hrL, sub3, by rw [List.length_append]; omega, fun u hu w hw => ?_⟩
          rw [take1] at hu
          rcases List.mem_append.mp hu with hu | hu
          · have := hcl u hu w hw
            exact ⟨List.mem_append_left _ this.1, List.mem_append_left _ this.2⟩
          · have hu : u = o := by simpa using hu
            subst hu
            rw [← ebt] at hw
            exact cl3 w hw
    · have := lenL L nd hsub
      omega
end
end LK
namespace LK
open PySem PySem.Spec PyProof.Rows L2
/-! calls by keywords alone, named from the last parameter to the first -/
def kwRev {α : Type} (n : Nat) : List α → List α → List α
  | [], ws => if ws.length = n then ws.reverse else []
  | _ :: _, _ => []
theorem vals_rev2 {vs : List V} {us : List Value} (r : Vals vs us) : Vals vs.reverse us.reverse := r.reverse
theorem kw_rel {n : Nat} {vs : List V} {us : List Value} {zs : List V} {ws : List Value} (r : Vals vs us) (rz : Vals zs ws) : Vals (kwRev n vs zs) (kwRev n us ws) := by
  cases r with
  | nil =>
    show Vals (if zs.length = n then zs.reverse else []) (if ws.length = n then ws.reverse else [])
    rw [rz.length]
    split
    · exact rz.reverse
    · exact .nil
  | cons a b => exact .nil
theorem kw_inv {n : Nat} {us ws : List Value} (hn : 0 < n) (h : (kwRev n us ws).length = n) : us = [] ∧ ws.length = n := by
  cases us with
  | nil =>
    refine ⟨rfl, ?_⟩
    replace h : (if ws.length = n then ws.reverse else []).length = n := h
    by_cases c : ws.length = n
    · exact c
    · rw [if_neg c] at h
      exact absurd h (by show ¬ (0 = n); omega)
  | cons a l => exact absurd h (by show ¬ (0 = n); omega)
section
variable {K : PySem.W.Frag} {mg : Str → Option Value} {ad : Nat → Addr} {fd : Nat → FuncData}
theorem kb_is_piece_other_rope_book (T : Txt K mg ad fd) : KBinds K (fd 30) ["book", "rope", "other"] ["other", "rope", "book"] (kwRev 3) (kwRev 3) := by
  obtain ⟨oc, od, kV, doc, pm, an, cdv, ct, osl, e, lk, hcd⟩ := T.F_is_piece.ex
  refine ⟨fun s us ws _ hl => ?_, fun r rz => kw_rel r rz⟩
  obtain ⟨rfl, hw⟩ := kw_inv (n := 3) (by decide) hl
  rw [e]
  match ws, hw with
  | [a, b, c], _ => exact .of_eq rfl
theorem kb_pieces_of_rope_book (T : Txt K mg ad fd) : KBinds K (fd 32) ["book", "rope"] ["rope", "book"] (kwRev 2) (kwRev 2) := by
  obtain ⟨oc, od, kV, doc, pm, an, cdv, ct, osl, e, lk, hcd⟩ := T.F_pieces_of.ex
  refine ⟨fun s us ws _ hl => ?_, fun r rz => kw_rel r rz⟩
  obtain ⟨rfl, hw⟩ := kw_inv (n := 2) (by decide) hl
  rw [e]
  match ws, hw with
  | [a, b], _ => exact .of_eq rfl
theorem kb_cut_rope_tie_rope_book (T : Txt K mg ad fd) : KBinds K (fd 31) ["book", "rope", "tie"] ["tie", "rope", "book"] (kwRev 3) (kwRev 3) := by
  obtain ⟨oc, od, kV, doc, pm, an, cdv, ct, osl, e, lk, hcd⟩ := T.F_cut_rope.ex
  refine ⟨fun s us ws _ hl => ?_, fun r rz => kw_rel r rz⟩
  obtain ⟨rfl, hw⟩ := kw_inv (n := 3) (by decide) hl
  rw [e]
  match ws, hw with
  | [a, b, c], _ => exact .of_eq rfl
theorem kb_above_of_ropes_book (T : Txt K mg ad fd) : KBinds K (fd 37) ["book", "ropes"] ["ropes", "book"] (kwRev 2) (kwRev 2) := by
  obtain ⟨oc, od, kV, doc, pm, an, cdv, ct, osl, e, lk, hcd⟩ := T.F_above_of.ex
  refine ⟨fun s us ws _ hl => ?_, fun r rz => kw_rel r rz⟩
  obtain ⟨rfl, hw⟩ := kw_inv (n := 2) (by decide) hl
  rw [e]
  match ws, hw with
  | [a, b], _ => exact .of_eq rfl
end
end LK
namespace LK
open PySem PySem.Spec PyProof.Rows L2
theorem rising_pw : ∀ {l : List Int}, l.Pairwise (· < ·) → rising l = true
  | [], _ => rfl
  | [_], _ => rfl
  | x :: y :: l, h => by
    obtain ⟨h1, h2⟩ := List.pairwise_cons.mp h
    have := rising_pw h2
    unfold rising
    rw [this, decide_eq_true (h1 y (by simp))]
    rfl
theorem isRope_of {n : Int} {rows : List (List Int)} {r : Rope} (h : r ∈ ropesL n rows) : isRope n rows (dRope r) = true := by
  obtain ⟨lo, hi, e1, e2, lt, hn, t, sub⟩ := rope_mem.mp h
  obtain ⟨a, b, A⟩ := r
  have e1 : a = (lo : Int) := e1
  have e2 : b = (hi : Int) := e2
  have sub : A.Sublist (btw n rows lo hi) := sub
  subst e1 e2
  have h1 := isTie_of (rows := rows) lt hn t
  have h2 : isLot n (dTup A) = true := by
    unfold isLot
    rw [dInts_tup]
    have a1 : areBelow n (dTup A) = true := by
      show (A.map PyData.int).all (isBelow n) = true
      rw [List.all_map, List.all_eq_true]
      intro z hz
      have := btw_mem.mp (sub.subset hz)
      show isBelow n (.int z) = true
      simp [isBelow]
      omega
    rw [a1, rising_pw ((btw_pw n rows _ _).sublist sub)]
    rfl
  show (isTie n rows (dTup [(lo : Int), (hi : Int)]) && isLot n (dTup A) && (dInts (dTup A)).all fun a => decide (a ∈ btw n rows (lo : Int) (hi : Int))) = true
  rw [h1, h2, dInts_tup]
  simp only [Bool.and_self, Bool.true_and, List.all_eq_true, decide_eq_true_eq]
  exact fun z hz => sub.subset hz
theorem deep_ints : ∀ l : List Int, deepDs (l.map PyData.int) = 0
  | [] => rfl
  | x :: l => by
    rw [List.map_cons, deepDs, deep_ints l]
    rfl
theorem deep_rope (r : Rope) : deepD (dRope r) ≤ 2 := by
  have h : deepD (dTup r.2.2) = deepDs (r.2.2.map PyData.int) + 1 := rfl
  rw [deep_ints] at h
  show deepD (.tuple [.int r.1, .int r.2.1, dTup r.2.2]) ≤ 2
  simp [deepD, deepDs, h]
theorem deep_ropesL : ∀ R : List Rope, deepDs (R.map dRope) ≤ 2
  | [] => Nat.zero_le _
  | r :: R => by
    rw [List.map_cons, deepDs]
    have := deep_ropesL R
    have := deep_rope r
    omega
theorem deep_ropes (R : List Rope) : deepD (dRopes R) ≤ 3 := by
  have := deep_ropesL R
  have h : deepD (dRopes R) = deepDs (R.map dRope) + 1 := rfl
  omega
theorem noL_ropes (R : List Rope) : noL (dRopes R) = true := noLs_ropes R
/-- what is found under each rope -/
structure UnderAt (K : PySem.W.Frag) (P : Program) (w : World) (H : Hp) (U : Addr) (n : Int) (rows : List (List Int)) (us : KDs Rope) : Prop where
  at_ : H U = some (KdO ropeK P w U us)
  kk : KdKeys ropeK K H us
  vals : ∀ r ∈ ropesL n rows, ∃ p ys, kdGet us r = some (.ref p) ∧ SqL K H p ys ∧ RpAll K H ys ((piecesL n rows r).map dRope)
theorem UnderAt.same {K : PySem.W.Frag} {P : Program} {w : World} {H H' : Hp} {U : Addr} {n : Int} {rows : List (List Int)} {us : KDs Rope} (h : UnderAt K P w H U n rows us) (s : Same H H') : UnderAt K P w H' U n rows us :=
  ⟨s _ _ h.at_, h.kk.same s, fun r hr => by
    obtain ⟨p, ys, h1, h2, h3⟩ := h.vals r hr
    exact ⟨p, ys, h1, s.seq h2, h3.same s⟩⟩
/-- ropes of the book -/
def RopesIn (K : PySem.W.Frag) (H : Hp) (n : Int) (rows : List (List Int)) (xs : List V) : Prop := ∀ x ∈ xs, ∃ r ∈ ropesL n rows, Rp K H x (dRope r)
theorem RopesIn.same {K : PySem.W.Frag} {H H' : Hp} {n : Int} {rows : List (List Int)} {xs : List V} (h : RopesIn K H n rows xs) (s : Same H H') : RopesIn K H' n rows xs := fun x hx => by
  obtain ⟨r, hr, rr⟩ := h x hx
  exact ⟨r, hr, rr.same s⟩
theorem cutV_sub {xs : List V} {lo hi : Option Int} {x : V} (h : x ∈ cutV xs lo hi) : x ∈ xs := List.mem_of_mem_drop (List.mem_of_mem_take h)
theorem cutV_len (xs : List V) (lo hi : Option Int) : (cutV xs lo hi).length ≤ xs.length := by
  unfold cutV
  rw [List.length_take, List.length_drop]
  omega
theorem cutV_from {xs : List V} {a : Int} (h0 : 0 ≤ a) (h1 : a < xs.length) : cutV xs (some a) none = xs.drop a.toNat := by
  unfold cutV
  have e1 : HT.sIx xs.length 0 (some a) = a.toNat := by
    unfold HT.sIx
    simp
    split <;> omega
  have e2 : HT.sIx xs.length xs.length none = xs.length := rfl
  rw [e1, e2]
  rw [List.take_of_length_le (by rw [List.length_drop]; omega)]
theorem cutV_upto {xs : List V} {a : Int} (h0 : 0 ≤ a) : cutV xs none (some a) = xs.take a.toNat := by
  unfold cutV
  have e2 : HT.sIx xs.length 0 none = 0 := rfl
  rw [e2, List.drop_zero, Nat.sub_zero]
  by_cases c : a ≤ xs.length
  · have e1 : HT.sIx xs.length xs.length (some a) = a.toNat := by
      unfold HT.sIx
      simp
      split <;> omega
    rw [e1]
  · have e1 : HT.sIx xs.length xs.length (some a) = xs.length := by
      unfold HT.sIx
      simp
      split <;> omega
    rw [e1, List.take_of_length_le (Nat.le_refl _), List.take_of_length_le (by omega)]
/-- what each step of the law knows -/
structure Seen (K : PySem.W.Frag) (P : Program) (w : World) (X : Hp) (v : V) (R U : Addr) (n : Int) (rows B : List (List Int)) (xs : List V) (us : KDs Rope) : Prop where
  book : Rp K X v (bookD n rows)
  bw : BookW n rows B
  ropes : SqL K X R xs
  all : RpAll K X xs ((ropesL n rows).map dRope)
  ne : 0 < xs.length
  few : xs.length ≤ 1000
  under : UnderAt K P w X U n rows us
theorem Seen.same {K : PySem.W.Frag} {P : Program} {w : World} {X X' : Hp} {v : V} {R U : Addr} {n : Int} {rows B : List (List Int)} {xs : List V} {us : KDs Rope} (h : Seen K P w X v R U n rows B xs us) (s : Same X X') : Seen K P w X' v R U n rows B xs us :=
  ⟨h.book.same s, h.bw, s.seq h.ropes, h.all.same s, h.ne, h.few, h.under.same s⟩
theorem Seen.inn {K : PySem.W.Frag} {P : Program} {w : World} {X : Hp} {v : V} {R U : Addr} {n : Int} {rows B : List (List Int)} {xs : List V} {us : KDs Rope} (h : Seen K P w X v R U n rows B xs us) : RopesIn K X n rows xs := fun x hx => by
  obtain ⟨i, hi, ei⟩ := List.getElem_of_mem hx
  obtain ⟨d, hd, rd⟩ := h.all.get (i := i) (v := x) (by rw [List.getElem?_eq_getElem hi, ei])
  rw [List.getElem?_map] at hd
  obtain ⟨r, hr, er⟩ := Option.map_eq_some_iff.mp hd
  exact ⟨r, List.mem_of_getElem? hr, er ▸ rd⟩
theorem BookW.bk {n : Int} {rows B : List (List Int)} (h : BookW n rows B) : BookIn n rows := ⟨h.inn, by have := h.n1; omega, by have := h.n10; omega⟩
theorem pieces_le {n : Int} {rows B : List (List Int)} (h : BookW n rows B) {r : Rope} (hr : r ∈ ropesL n rows) : (piecesL n rows r).length ≤ 100 := pieces_len h.n10 (ropesL_ends hr)
theorem rope_lt_ends {n : Int} {rows : List (List Int)} {r : Rope} (hr : r ∈ ropesL n rows) : r.1 < r.2.1 := by
  obtain ⟨lo, hi, e1, e2, lt, _⟩ := rope_mem.mp hr
  omega
def spPiecesRight (K : PySem.W.Frag) (P : Program) (w : World) : Sp := fun vs H Q _ => ∃ (S : Addr) (v : V) (R U : Addr) (n : Int) (rows B : List (List Int)) (xs : List V) (us : KDs Rope), vs = [.ref S, v, .ref R, .ref U] ∧ StOk H S S ∧ Seen K P w (hide S H) v R U n rows B xs us ∧ ∀ H', Mv S S H H' → Q (.bl true) H'
section
variable {P : Program} {w : World} {K : PySem.W.Frag} {mg : Str → Option Value} {base : Heap} {ad : Nat → Addr} {fd : Nat → FuncData}
theorem ok__law_pieces_right (T : Txt K mg ad fd) : FnOk P w K mg base CX0 10 (ad 50) (fd 50) ["_law_d", "_law_book", "_law_ropes", "_law_under"] (spPiecesRight K P w) := by
  refine T.F__law_pieces_right.ok sc__law_pieces_right (fun vs H Q E h => ?_) (fun cdv A outer s H vs Q E hr h => ?_)
  · obtain ⟨S, v, R, U, n, rows, B, xs, us, rfl, _⟩ := h
    rfl
  · obtain ⟨S, v, R, U, n, rows, B, xs, us, rfl, st, sn, k⟩ := h
    refine ⟨_, (pss_cons (ps_set (i := 4) sc__law_pieces_right.nd rfl (Or.inl rfl) (pe_call (ok__law_take T) (hr.mono (by decide)) rfl T.m__law_take T.F__law_take.kp (b__law_take T) .nil pass0 (pa_cons (pv 0) (pa_cons (pe_callB (lenS K) (by rfl) T.g_len (by decide +kernel) (pa_cons (pv 2) pa_nil)) pa_nil))))
  (pss_cons (ps_set (i := 5) sc__law_pieces_right.nd rfl (Or.inl rfl) (pe_slice (slL K) (pe_op (catL K) (pe_slice (slL K) (pv 2) (po_some (pv 4)) po_none) (pe_slice (slL K) (pv 2) po_none (po_some (pv 4)))) po_none (po_some pe_int)))
  (pss_cons (ps_for PassesOwn.never rfl (piL K (pe_slice (slL K) (pv 5) po_none (po_some pe_int))) (pg_name (i := 6) (x := "_law_rope") sc__law_pieces_right.nd rfl (Or.inl rfl))
  (pss_one (ps_if (pt_not (pt_val (pe_call (ok__law_same T) (hr.mono (by decide)) rfl T.m__law_same T.F__law_same.kp (b__law_same T) .nil pass0 (pa_cons (pe_callTy (tupOf K) (by rfl) T.g_tuple (by decide +kernel) (pa_cons (pe_kdget ropeK K P w (hu65 hr) (pv 3) (pv 6) (fun _ _ => rfl)) pa_nil)) (pa_cons (pe_call (ok_pieces_of T) (hr.mono (by decide)) rfl T.m_pieces_of T.F_pieces_of.kp (b_pieces_of T) .nil passL (pa_cons (pv 1) (pa_cons (pv 6) pa_nil))) pa_nil))))) (pss_one (ps_ret pe_bl))
  pss_nil)))
  (pss_cons (ps_set (i := 7) sc__law_pieces_right.nd rfl (Or.inl rfl) (pe_ix (ixL K) (pv 5) (pe_call (ok__law_take T) (hr.mono (by decide)) rfl T.m__law_take T.F__law_take.kp (b__law_take T) .nil pass0 (pa_cons (pv 0) (pa_cons (pe_callB (lenS K) (by rfl) T.g_len (by decide +kernel) (pa_cons (pv 5) pa_nil)) pa_nil))) (fun _ _ => rfl)))
  (pss_cons (ps_for PassesOwn.never rfl (piL K (pv 5)) (pg_name (i := 6) (x := "_law_rope") sc__law_pieces_right.nd rfl (Or.inl rfl))
  (pss_cons (ps_if (pt_not (pt_val (pe_call (ok__law_same T) (hr.mono (by decide)) rfl T.m__law_same T.F__law_same.kp (b__law_same T) .nil pass0 (pa_cons (pe_cmpR (inRo K (hu65 hr)) (pv 6) (pe_kdget ropeK K P w (hu65 hr) (pv 3) (pv 7) (fun _ _ => rfl)) (by with_unfolding_all rfl)) (pa_cons (pe_call (ok_is_piece T) (hr.mono (by decide)) rfl T.m_is_piece T.F_is_piece.kp (b_is_piece T) .nil passL (pa_cons (pv 1) (pa_cons (pv 6) (pa_cons (pv 7) pa_nil)))) pa_nil))))) (pss_one (ps_ret pe_bl))
  pss_nil)
  (pss_one (ps_if (pt_not (pt_val (pe_call (ok__law_same T) (hr.mono (by decide)) rfl T.m__law_same T.F__law_same.kp (b__law_same T) .nil pass0 (pa_cons (pe_cmpR (inRo K (hu65 hr)) (pv 7) (pe_kdget ropeK K P w (hu65 hr) (pv 3) (pv 6) (fun _ _ => rfl)) (by with_unfolding_all rfl)) (pa_cons (pe_call (ok_is_piece T) (hr.mono (by decide)) rfl T.m_is_piece T.F_is_piece.kp (b_is_piece T) .nil passL (pa_cons (pv 1) (pa_cons (pv 7) (pa_cons (pv 6) pa_nil)))) pa_nil))))) (pss_one (ps_ret pe_bl))
  pss_nil))))
  (pss_cons (ps_set (i := 6) sc__law_pieces_right.nd rfl (Or.inl rfl) (pe_ix (ixL K) (pv 5) pe_int (fun _ _ => rfl)))
  (pss_cons (ps_if (pt_not (pt_val (pe_call (ok__law_same T) (hr.mono (by decide)) rfl T.m__law_same T.F__law_same.kp (b__law_same T) .nil pass0 (pa_cons (pe_cmpR (inRo K (hu65 hr)) (pv 6) (pe_kdget ropeK K P w (hu65 hr) (pv 3) (pv 7) (fun _ _ => rfl)) (by with_unfolding_all rfl)) (pa_cons (pe_callKO (ok_is_piece T) (hr.mono (by decide)) rfl T.m_is_piece T.F_is_piece.kp (kb_is_piece_other_rope_book T) passL (pk_cons (pv 7) (pk_cons (pv 6) (pk_cons (pv 1) pk_nil)))) pa_nil))))) (pss_one (ps_ret pe_bl))
  pss_nil)
  (pss_one (ps_ret (pe_call (ok__law_same T) (hr.mono (by decide)) rfl T.m__law_same T.F__law_same.kp (b__law_same T) .nil pass0 (pa_cons (pe_callTy (tupOf K) (by rfl) T.g_tuple (by decide +kernel) (pa_cons (pe_kdget ropeK K P w (hu65 hr) (pv 3) (pv 7) (fun _ _ => rfl)) pa_nil)) (pa_cons (pe_callKO (ok_pieces_of T) (hr.mono (by decide)) rfl T.m_pieces_of T.F_pieces_of.kp (kb_pieces_of_rope_book T) passL (pk_cons (pv 7) (pk_cons (pv 1) pk_nil))) pa_nil)))))))))))), ?_⟩
    have snH : ∀ {H' : Hp}, Mv S S H H' → Seen K P w H' v R U n rows B xs us := fun m => (sn.same m.same).same (hide_same _ _)
    have hB := sn.bw
    have hne := sn.ne
    have hfew := sn.few
    refine ⟨_, rfl, _, rfl, R, _, rfl, .inl (snH (Mv.refl st)).ropes, S, ((xs.length : Nat) : Int), rfl, st, by omega, fun r0 H1 a0 a1 m1 => ?_⟩
    refine ⟨_, rfl, _, rfl, _, rfl, R, _, rfl, (snH m1).ropes, fun q1 hq1 => ?_⟩
    rw [cutV_from a0 a1]
    have s1 := same_upd (o := .lst (xs.drop r0.toNat)) hq1
    have g1 : upd H1 q1 (.lst (xs.drop r0.toNat)) q1 = some (.lst (xs.drop r0.toNat)) := upd_same
    generalize upd H1 q1 (.lst (xs.drop r0.toNat)) = H2 at s1 g1 ⊢
    have m2 := m1.then s1
    refine ⟨_, rfl, _, rfl, _, rfl, R, _, rfl, (snH m2).ropes, fun q2 hq2 => ?_⟩
    rw [cutV_upto a0]
    have s2 := same_upd (o := .lst (xs.take r0.toNat)) hq2
    have g2 : upd H2 q2 (.lst (xs.take r0.toNat)) q2 = some (.lst (xs.take r0.toNat)) := upd_same
    generalize upd H2 q2 (.lst (xs.take r0.toNat)) = H3 at s2 g2 ⊢
    have m3 := m2.then s2
    have lcut : (xs.drop r0.toNat).length + (xs.take r0.toNat).length ≤ 1000 := by rw [List.length_drop, List.length_take]; omega
    refine ⟨q1, q2, _, _, rfl, rfl, SqL.of (s2 _ _ g1), SqL.of g2, by omega, fun q3 hq3 => ?_⟩
    obtain ⟨ws, ews⟩ : ∃ ws, ws = xs.drop r0.toNat ++ xs.take r0.toNat := ⟨_, rfl⟩
    have inW : RopesIn K (hide S H) n rows ws := fun x hx => by
      rw [ews] at hx
      rcases List.mem_append.mp hx with hx | hx
      · exact sn.inn x (List.mem_of_mem_drop hx)
      · exact sn.inn x (List.mem_of_mem_take hx)
    have lw : 0 < ws.length := by
      rw [ews, List.length_append, List.length_drop]
      omega
    have lw2 : ws.length ≤ 1000 := by
      rw [ews, List.length_append]
      exact lcut
    rw [← ews]
    clear ews
    have s3 := same_upd (o := .lst ws) hq3
    have g3 : upd H3 q3 (.lst ws) q3 = some (.lst ws) := upd_same
    generalize upd H3 q3 (.lst ws) = H4 at s3 g3 ⊢
    have m4 := m3.then s3
    refine ⟨_, rfl, q3, _, rfl, SqL.of g3, fun N hN => ?_⟩
    rw [cutV_upto (by decide)]
    obtain ⟨ns, ens⟩ : ∃ ns, ns = ws.take (24 : Int).toNat := ⟨_, rfl⟩
    have inN : RopesIn K (hide S H) n rows ns := fun x hx => inW x (List.mem_of_mem_take (ens ▸ hx))
    have ln : 0 < ns.length := by
      rw [ens, List.length_take]
      show 0 < min 24 ws.length
      omega
    have ln2 : ns.length ≤ 1000 := by
      rw [ens, List.length_take]
      omega
    rw [← ens]
    clear ens
    have s4 := same_upd (o := .lst ns) hN
    have g4 : upd H4 N (.lst ns) N = some (.lst ns) := upd_same
    have NS : N ≠ S := free_ne m4.ok hN
    generalize upd H4 N (.lst ns) = H5 at s4 g4 ⊢
    have m5 := m4.then s4
    -- each step of the loops
    have under : ∀ {H' : Hp}, Mv S S H H' → ∀ {r : Rope}, r ∈ ropesL n rows → ∃ p ys, kdGet us r = some (.ref p) ∧ SqL K H' p ys ∧ RpAll K H' ys ((piecesL n rows r).map dRope) := fun m r hr => (snH m).under.vals r hr
    refine ⟨_, rfl, _, rfl, N, _, rfl, SqL.of g4, fun q5 hq5 => ?_⟩
    have s5 := same_upd (o := .lst (cutV ns none (some 10))) hq5
    have g5 : upd H5 q5 (.lst (cutV ns none (some 10))) q5 = some (.lst (cutV ns none (some 10))) := upd_same
    have NS5 : q5 ≠ S := free_ne m5.ok hq5
    have in5 : RopesIn K (hide S H) n rows (cutV ns none (some 10)) := fun x hx => inN x (cutV_sub hx)
    generalize cutV ns none (some 10) = ts at s5 g5 in5 ⊢
    generalize upd H5 q5 (.lst ts) = H6 at s5 g5 ⊢
    have m6 := m5.then s5
    have gN6 := s5 _ _ g4
    refine ⟨q5, rfl, ⟨_, SqL.of g5⟩, for_list (K := K) (a := q5) (xs := ts) (fun i σ H7 => ∃ v6 : Option V, σ = [some (.ref S), some v, some (.ref R), some (.ref U), some (.int r0), some (.ref N), v6, none] ∧ Same H6 H7) ⟨_, rfl, Same.refl _⟩ (fun i σ H7 _ ⟨_, _, s7⟩ => SqL.of (s7 _ _ g5)) (fun i x σ H7 hx ⟨v6, e1, s7⟩ => ?_) (fun σ H7 ⟨v6, e1, s7⟩ => ?_)⟩
    · subst e1
      obtain ⟨r, hr1, rx⟩ := in5 x (List.mem_of_getElem? hx)
      have m7 := m6.then s7
      have rx7 : Rp K H7 x (dRope r) := (rx.same m7.same).same (hide_same _ _)
      obtain ⟨xa, xc, rfl, _, _⟩ := rp_rope rx7
      obtain ⟨p, ys, hp, hy, ry⟩ := under m7 hr1
      have sn7 := snH m7
      have lys := ry.length
      rw [List.length_map] at lys
      have lpc := pieces_le hB hr1
      refine ⟨_, rfl, _, rfl, U, xa, us, r, .ref p, rfl, rfl, .inl sn7.under.at_, sn7.under.kk, rx7, hp, ?_⟩
      dsimp only [tNil]
      refine tupL_use hy fun q8 H8 s8 hq8 => ?_
      have r8 : Rp K H8 (.ref q8) (dRopes (piecesL n rows r)) := .tup hq8 (by omega) (ry.same s8)
      refine ⟨_, rfl, _, rfl, v, .ref xa, dRope r, n, rows, rfl, sn7.book.same s8, rx7.same s8, hB.inn, hB.bk.2.1, hB.n10, fun c => absurd c (by rw [isRope_of hr1]; decide), fun r' e' _ z H9 s9 rz => ?_⟩
      obtain rfl := dRope_inj e'
      refine ⟨.ref q8, z, _, _, rfl, r8.same s9, rz, noL_ropes _, deep_ropes _, fun b HA sA hb => ⟨_, rfl, ?_⟩⟩
      rw [hb.mpr rfl]
      exact iteF ⟨_, rfl, ((s7.trans s8).trans s9).trans sA⟩
    · subst e1
      have m7 := m6.then s7
      have gN7 := s7 _ _ gN6
      refine ⟨_, rfl, _, rfl, _, rfl, N, _, rfl, .inl (SqL.of gN7), S, ((ns.length : Nat) : Int), rfl, m7.ok, by omega, fun r1 H8 b0 b1 m8 => ?_⟩
      have gN8 := m8.get NS gN7
      have m78 := m7.trans m8
      obtain ⟨y, hy⟩ : ∃ y, ns[r1.toNat]? = some y := ⟨_, List.getElem?_eq_getElem (by omega)⟩
      obtain ⟨o, ho1, ry⟩ := inN y (List.mem_of_getElem? hy)
      refine ⟨N, _, _, _, rfl, rfl, SqL.of gN8, at_of (j := r1.toNat) (by omega) hy, ?_⟩
      have fo : ∀ {H' : Hp}, Mv S S H H' → Rp K H' y (dRope o) := fun m => (ry.same m.same).same (hide_same _ _)
      obtain ⟨ya, yc, rfl, _, _⟩ := rp_rope (fo m78)
      have lpo := pieces_le hB ho1
      refine ⟨_, rfl, N, rfl, ⟨_, SqL.of gN8⟩, for_list (K := K) (a := N) (xs := ns) (fun i σ H9 => ∃ v6 : Option V, σ = [some (.ref S), some v, some (.ref R), some (.ref U), some (.int r0), some (.ref N), v6, some (.ref ya)] ∧ Same H8 H9) ⟨_, rfl, Same.refl _⟩ (fun i σ H9 _ ⟨_, _, s9⟩ => SqL.of (s9 _ _ gN8)) (fun i x σ H9 hx ⟨v6, e1, s9⟩ => ?_) (fun σ H9 ⟨v6, e1, s9⟩ => ?_)⟩
      · subst e1
        obtain ⟨r, hr1, rx⟩ := inN x (List.mem_of_getElem? hx)
        have m9 := m78.then s9
        have fr : ∀ {H' : Hp}, Mv S S H H' → Rp K H' x (dRope r) := fun m => (rx.same m.same).same (hide_same _ _)
        obtain ⟨xa, xc, rfl, _, _⟩ := rp_rope (fr m9)
        have sn9 := snH m9
        have lpr := pieces_le hB hr1
        -- rope in under[one]
        obtain ⟨p, ys, hp, hys, rys⟩ := under m9 ho1
        have lys := rys.length
        rw [List.length_map] at lys
        refine ⟨_, rfl, _, rfl, _, rfl, U, ya, us, o, .ref p, rfl, rfl, .inl sn9.under.at_, sn9.under.kk, fo m9, hp, r, piecesL n rows o, fr m9, .lst hys (by omega) rys, ?_⟩
        refine ⟨_, rfl, _, rfl, _, rfl, v, .ref xa, .ref ya, dRope r, dRope o, n, rows, rfl, sn9.book, fr m9, fo m9, hB.bk, fun c => absurd c (by rw [isRope_of hr1]; decide), fun _ c => absurd c (by rw [isRope_of ho1]; decide), fun r' o' er eo _ _ HA sA => ?_⟩
        obtain rfl := dRope_inj er
        obtain rfl := dRope_inj eo
        refine ⟨_, _, .bool _, .bool _, rfl, .bl _, .bl _, rfl, Nat.zero_le _, fun b HB sB hb => ⟨_, rfl, ?_⟩⟩
        rw [hb.mpr (by congr 1; rw [Bool.eq_iff_iff, isCut_piece (rope_lt_ends hr1) ho1]; simp)]
        refine iteF ?_
        have mB := m9.then (sA.trans sB)
        have snB := snH mB
        -- one in under[rope]
        obtain ⟨p2, ys2, hp2, hys2, rys2⟩ := under mB hr1
        have lys2 := rys2.length
        rw [List.length_map] at lys2
        refine ⟨_, rfl, _, rfl, _, rfl, U, xa, us, r, .ref p2, rfl, rfl, .inl snB.under.at_, snB.under.kk, fr mB, hp2, o, piecesL n rows r, fo mB, .lst hys2 (by omega) rys2, ?_⟩
        refine ⟨_, rfl, _, rfl, _, rfl, v, .ref ya, .ref xa, dRope o, dRope r, n, rows, rfl, snB.book, fo mB, fr mB, hB.bk, fun c => absurd c (by rw [isRope_of ho1]; decide), fun _ c => absurd c (by rw [isRope_of hr1]; decide), fun r' o' er eo _ _ HC sC => ?_⟩
        obtain rfl := dRope_inj er
        obtain rfl := dRope_inj eo
        refine ⟨_, _, .bool _, .bool _, rfl, .bl _, .bl _, rfl, Nat.zero_le _, fun b HD sD hb => ⟨_, rfl, ?_⟩⟩
        rw [hb.mpr (by congr 1; rw [Bool.eq_iff_iff, isCut_piece (rope_lt_ends ho1) hr1]; simp)]
        exact iteF ⟨_, rfl, (((s9.trans sA).trans sB).trans sC).trans sD⟩
      · subst e1
        have m9 := m78.then s9
        have gN9 := s9 _ _ gN8
        obtain ⟨x, hx⟩ : ∃ x, ns[0]? = some x := ⟨_, List.getElem?_eq_getElem ln⟩
        obtain ⟨r, hr1, rx⟩ := inN x (List.mem_of_getElem? hx)
        have fr : ∀ {H' : Hp}, Mv S S H H' → Rp K H' x (dRope r) := fun m => (rx.same m.same).same (hide_same _ _)
        obtain ⟨xa, xc, rfl, _, _⟩ := rp_rope (fr m9)
        have sn9 := snH m9
        refine ⟨_, rfl, N, _, _, _, rfl, rfl, SqL.of gN9, at_of (j := 0) rfl hx, ?_⟩
        obtain ⟨p, ys, hp, hys, rys⟩ := under m9 ho1
        have lys := rys.length
        rw [List.length_map] at lys
        refine ⟨_, rfl, _, rfl, _, rfl, U, ya, us, o, .ref p, rfl, rfl, .inl sn9.under.at_, sn9.under.kk, fo m9, hp, r, piecesL n rows o, fr m9, .lst hys (by omega) rys, ?_⟩
        refine ⟨_, rfl, _, rfl, _, rfl, v, .ref xa, .ref ya, dRope r, dRope o, n, rows, rfl, sn9.book, fr m9, fo m9, hB.bk, fun c => absurd c (by rw [isRope_of hr1]; decide), fun _ c => absurd c (by rw [isRope_of ho1]; decide), fun r' o' er eo _ _ HA sA => ?_⟩
        obtain rfl := dRope_inj er
        obtain rfl := dRope_inj eo
        refine ⟨_, _, .bool _, .bool _, rfl, .bl _, .bl _, rfl, Nat.zero_le _, fun b HB sB hb => ⟨_, rfl, ?_⟩⟩
        rw [hb.mpr (by congr 1; rw [Bool.eq_iff_iff, isCut_piece (rope_lt_ends hr1) ho1]; simp)]
        refine iteF ?_
        have mB := m9.then (sA.trans sB)
        have snB := snH mB
        obtain ⟨p2, ys2, hp2, hys2, rys2⟩ := under mB ho1
        have lys2 := rys2.length
        rw [List.length_map] at lys2
        refine ⟨_, rfl, _, rfl, U, ya, us, o, .ref p2, rfl, rfl, .inl snB.under.at_, snB.under.kk, fo mB, hp2, ?_⟩
        dsimp only [tNil]
        refine tupL_use hys2 fun q8 HC s8 hq8 => ?_
        have r8 : Rp K HC (.ref q8) (dRopes (piecesL n rows o)) := .tup hq8 (by omega) (rys2.same s8)
        refine ⟨_, rfl, _, rfl, v, .ref ya, dRope o, n, rows, rfl, snB.book.same s8, (fo mB).same s8, hB.inn, hB.bk.2.1, hB.n10, fun c => absurd c (by rw [isRope_of ho1]; decide), fun r' e' _ z HD s9' rz => ?_⟩
        obtain rfl := dRope_inj e'
        refine ⟨.ref q8, z, _, _, rfl, r8.same s9', rz, noL_ropes _, deep_ropes _, fun b HE sE hb => ?_⟩
        rw [hb.mpr rfl]
        exact k _ (mB.then ((s8.trans s9').trans sE))
end
end LK
namespace LK
open PySem PySem.Spec PyProof.Rows L2
/-- a piece of a rope is a rope -/
theorem piece_rope {n : Int} {rows B : List (List Int)} (hB : BookW n rows B) {r o : Rope} (hr : r ∈ ropesL n rows) (ho : o ∈ piecesL n rows r) : o ∈ ropesL n rows := by
  obtain ⟨o0, olt, on, ot⟩ := piece_ends hB.wh hB.te hr ho
  have e1 : ((o.1.toNat : Nat) : Int) = o.1 := by omega
  have e2 : ((o.2.1.toNat : Nat) : Int) = o.2.1 := by omega
  obtain ⟨x, hx, y, hy, xy, e⟩ := pieces_mem.mp ho
  refine rope_mem.mpr ⟨o.1.toNat, o.2.1.toNat, e1.symm, e2.symm, by omega, by omega, by rw [e1, e2]; exact ot, ?_⟩
  rw [e1, e2, e]
  exact List.filter_sublist
/-- a cut of a piece is the cut of the rope -/
theorem piece_cut {n : Int} {rows B : List (List Int)} (hB : BookW n rows B) {r q : Rope} (hr : r ∈ ropesL n rows) (hq : q ∈ piecesL n rows r) {x y : Int} (hx : x ∈ thingsR n rows q) (hy : y ∈ thingsR n rows q) : cutR n rows q x y = cutR n rows r x y := by
  obtain ⟨q0, qlt, qn, qt⟩ := piece_ends hB.wh hB.te hr hq
  obtain ⟨a, ha, b, hb, ab, e⟩ := pieces_mem.mp hq
  subst e
  exact cut_cut fun z hz => whole_sub hB.wh hB.te qlt qt hx hy hz
theorem tie_in {n : Int} {rows B : List (List Int)} (hB : BookW n rows B) {q : Rope} (hq : q ∈ ropesL n rows) {x y : Int} (hx : x ∈ thingsR n rows q) (hy : y ∈ thingsR n rows q) (xy : x < y) : tieIn n rows q (dTup [x, y]) = true ∧ 0 ≤ x ∧ y < n ∧ tiedB rows x y = true := by
  have pm : cutR n rows q x y ∈ piecesL n rows q := pieces_mem.mpr ⟨x, hx, y, hy, xy, rfl⟩
  obtain ⟨x0, _, yn, t⟩ := piece_ends hB.wh hB.te hq pm
  have x0 : 0 ≤ x := x0
  have yn : y < n := yn
  have t : tiedB rows x y = true := t
  refine ⟨?_, x0, yn, t⟩
  have e1 : ((x.toNat : Nat) : Int) = x := by omega
  have e2 : ((y.toNat : Nat) : Int) = y := by omega
  have h1 := isTie_of (n := n) (rows := rows) (lo := x.toNat) (hi := y.toNat) (by omega) (by omega) (by rw [e1, e2]; exact t)
  rw [e1, e2] at h1
  unfold tieIn
  rw [h1, dInts_tup]
  simp only [Bool.true_and, List.all_eq_true, decide_eq_true_eq]
  intro z hz
  rcases List.mem_cons.mp hz with rfl | hz
  · exact hx
  · rw [List.mem_singleton] at hz
    exact hz ▸ hy
def spCutsRight (K : PySem.W.Frag) (P : Program) (w : World) : Sp := fun vs H Q _ => ∃ (S : Addr) (v : V) (d R U : Addr) (n : Int) (rows B : List (List Int)) (xs : List V) (us : KDs Rope) (ks : KDs (Int × Int)), vs = [.ref S, v, .ref d, .ref R, .ref U] ∧ StOk H S S ∧ Seen K P w (hide S H) v R U n rows B xs us ∧ MidsAt K P w (hide S H) d n rows ks ∧ ∀ H', Mv S S H H' → Q (.bl true) H'
section
variable {P : Program} {w : World} {K : PySem.W.Frag} {mg : Str → Option Value} {base : Heap} {ad : Nat → Addr} {fd : Nat → FuncData}
theorem ok__law_cuts_right (T : Txt K mg ad fd) : FnOk P w K mg base CX0 10 (ad 51) (fd 51) ["_law_d", "_law_book", "_law_mids", "_law_ropes", "_law_under"] (spCutsRight K P w) := by
  refine T.F__law_cuts_right.ok sc__law_cuts_right (fun vs H Q E h => ?_) (fun cdv A outer s H vs Q E hr h => ?_)
  · obtain ⟨S, v, d, R, U, n, rows, B, xs, us, ks, rfl, _⟩ := h
    rfl
  · obtain ⟨S, v, d, R, U, n, rows, B, xs, us, ks, rfl, st, sn, hm0, k⟩ := h
    refine ⟨_, (pss_cons (ps_set (i := 5) sc__law_cuts_right.nd rfl (Or.inr rfl) (pe_callB (maxR K) (by rfl) T.g_max (by decide +kernel) (pa_cons (pe_lc (own := [("_law_x", 11)]) (g := gName 11) rfl sc__law_cuts_right.nd (piL K (pv 3)) (blkOk_by (N := ["_law_d", "_law_book", "_law_mids", "_law_ropes", "_law_under", "_law_most", "_law_wide", "_law_rope", "_law_part", "_law_whole", "_law_due", "_law_x", "_law_things", "_law_y", "_law_v", "_law_w"]) (sc := defScope s__law_cuts_right) (by decide +kernel)) (fun _ _ _ _ _ => (pg_name (i := 11) (x := "_law_x") sc__law_cuts_right.nd rfl (Or.inl rfl))) (fun _ _ _ _ _ => pts_nil) (fun _ _ _ _ _ => (pe_callB (lenS K) (by rfl) T.g_len (by decide +kernel) (pa_cons (pe_kdget ropeK K P w (hu65 hr) (pv 4) (pv 11) (fun _ _ => rfl)) pa_nil)))) pa_nil)))
  (pss_cons (ps_setLc (i := 6) (own := [("_law_x", 11)]) (g := gName 11) rfl sc__law_cuts_right.nd rfl rfl (sw_true rfl rfl rfl (by decide +kernel)) (piL K (pv 3)) (blkOk_by (N := ["_law_d", "_law_book", "_law_mids", "_law_ropes", "_law_under", "_law_most", "_law_wide", "_law_rope", "_law_part", "_law_whole", "_law_due", "_law_x", "_law_things", "_law_y", "_law_v", "_law_w"]) (sc := defScope s__law_cuts_right) (by decide +kernel)) (fun _ _ _ _ _ => (pg_name (i := 11) (x := "_law_x") sc__law_cuts_right.nd rfl (Or.inl rfl))) (fun _ _ _ _ _ => (pts_one (pt_cmpR op_eq (pe_callB (lenS K) (by rfl) T.g_len (by decide +kernel) (pa_cons (pe_kdget ropeK K P w (hu65 hr) (pv 4) (pv 11) (fun _ _ => rfl)) pa_nil)) (pv 5) (nomark _)))) (fun _ _ _ _ _ => (pv 11)))
  (pss_cons (ps_for PassesOwn.never rfl (piL K (pe_lst (pa_cons (pe_ix (ixL K) (pv 6) (pe_call (ok__law_take T) (hr.mono (by decide)) rfl T.m__law_take T.F__law_take.kp (b__law_take T) .nil pass0 (pa_cons (pv 0) (pa_cons (pe_callB (lenS K) (by rfl) T.g_len (by decide +kernel) (pa_cons (pv 6) pa_nil)) pa_nil))) (fun _ _ => rfl)) (pa_cons (pe_ix (ixL K) (pv 3) (pe_call (ok__law_take T) (hr.mono (by decide)) rfl T.m__law_take T.F__law_take.kp (b__law_take T) .nil pass0 (pa_cons (pv 0) (pa_cons (pe_callB (lenS K) (by rfl) T.g_len (by decide +kernel) (pa_cons (pv 3) pa_nil)) pa_nil))) (fun _ _ => rfl)) pa_nil)))) (pg_name (i := 7) (x := "_law_rope") sc__law_cuts_right.nd rfl (Or.inr rfl))
  (pss_cons (ps_set (i := 8) sc__law_cuts_right.nd rfl (Or.inl rfl) (pe_ix (ixL K) (pe_kdget ropeK K P w (hu65 hr) (pv 4) (pv 7) (fun _ _ => rfl)) (pe_call (ok__law_take T) (hr.mono (by decide)) rfl T.m__law_take T.F__law_take.kp (b__law_take T) .nil pass0 (pa_cons (pv 0) (pa_cons (pe_callB (lenS K) (by rfl) T.g_len (by decide +kernel) (pa_cons (pe_kdget ropeK K P w (hu65 hr) (pv 4) (pv 7) (fun _ _ => rfl)) pa_nil)) pa_nil))) (fun _ _ => rfl)))
  (pss_cons (ps_for PassesOwn.never rfl (piL K (pe_lst (pa_cons (pv 7) (pa_cons (pv 8) pa_nil)))) (pg_name (i := 9) (x := "_law_whole") sc__law_cuts_right.nd rfl (Or.inl rfl))
  (pss_cons (ps_set (i := 12) sc__law_cuts_right.nd rfl (Or.inl rfl) (pe_callB (srtI K) (by rfl) T.g_sorted (by decide +kernel) (pa_cons (pe_op (catL K) (pe_lst (pa_cons (pe_ix (ixT K) (pv 9) pe_int (fun _ _ => rfl)) (pa_cons (pe_ix (ixT K) (pv 9) pe_int (fun _ _ => rfl)) pa_nil))) (pe_callTy (lstOf K) (by rfl) T.g_list (by decide +kernel) (pa_cons (pe_kdget pairK K P w (hu65 hr) (pv 2) (pe_tup (pa_cons (pe_ix (ixT K) (pv 9) pe_int (fun _ _ => rfl)) (pa_cons (pe_ix (ixT K) (pv 9) pe_int (fun _ _ => rfl)) pa_nil))) (fun _ _ => rfl)) pa_nil))) pa_nil)))
  (pss_one (ps_for PassesOwn.never rfl (piL K (pv 12)) (pg_name (i := 11) (x := "_law_x") sc__law_cuts_right.nd rfl (Or.inr rfl))
  (pss_one (ps_for PassesOwn.never rfl (piL K (pe_lc (own := [("_law_v", 14)]) (g := gName 14) rfl sc__law_cuts_right.nd (piL K (pv 12)) (blkOk_by (N := ["_law_d", "_law_book", "_law_mids", "_law_ropes", "_law_under", "_law_most", "_law_wide", "_law_rope", "_law_part", "_law_whole", "_law_due", "_law_x", "_law_things", "_law_y", "_law_v", "_law_w"]) (sc := defScope s__law_cuts_right) (by decide +kernel)) (fun _ _ _ _ _ => (pg_name (i := 14) (x := "_law_v") sc__law_cuts_right.nd rfl (Or.inl rfl))) (fun _ _ _ _ _ => (pts_one (pt_cmpR op_lt (pv 11) (pv 14) (nomark _)))) (fun _ _ _ _ _ => (pv 14)))) (pg_name (i := 13) (x := "_law_y") sc__law_cuts_right.nd rfl (Or.inl rfl))
  (pss_cons (ps_set (i := 10) sc__law_cuts_right.nd rfl (Or.inl rfl) (pe_tup (pa_cons (pv 11) (pa_cons (pv 13) (pa_cons (pe_callTy (tupOf K) (by rfl) T.g_tuple (by decide +kernel) (pa_cons (pe_lc (own := [("_law_w", 15)]) (g := gName 15) rfl sc__law_cuts_right.nd (piT K (pe_kdget pairK K P w (hu65 hr) (pv 2) (pe_tup (pa_cons (pv 11) (pa_cons (pv 13) pa_nil))) (fun _ _ => rfl))) (blkOk_by (N := ["_law_d", "_law_book", "_law_mids", "_law_ropes", "_law_under", "_law_most", "_law_wide", "_law_rope", "_law_part", "_law_whole", "_law_due", "_law_x", "_law_things", "_law_y", "_law_v", "_law_w"]) (sc := defScope s__law_cuts_right) (by decide +kernel)) (fun _ _ _ _ _ => (pg_name (i := 15) (x := "_law_w") sc__law_cuts_right.nd rfl (Or.inl rfl))) (fun _ _ _ _ _ => (pts_one (pt_cmpR (inS K) (pv 15) (pe_ix (ixT K) (pv 7) pe_int (fun _ _ => rfl)) (by with_unfolding_all rfl)))) (fun _ _ _ _ _ => (pv 15))) pa_nil)) pa_nil)))))
  (pss_one (ps_if (pt_not (pt_val (pe_call (ok__law_same T) (hr.mono (by decide)) rfl T.m__law_same T.F__law_same.kp (b__law_same T) .nil pass0 (pa_cons (pv 10) (pa_cons (pe_call (ok_cut_rope T) (hr.mono (by decide)) rfl T.m_cut_rope T.F_cut_rope.kp (b_cut_rope T) .nil passL (pa_cons (pv 1) (pa_cons (pv 9) (pa_cons (pe_tup (pa_cons (pv 11) (pa_cons (pv 13) pa_nil))) pa_nil)))) pa_nil))))) (pss_one (ps_ret pe_bl))
  pss_nil)))))))))
  (pss_cons (ps_set (i := 10) sc__law_cuts_right.nd rfl (Or.inl rfl) (pe_tup (pa_cons (pe_ix (ixT K) (pv 8) pe_int (fun _ _ => rfl)) (pa_cons (pe_ix (ixT K) (pv 8) pe_int (fun _ _ => rfl)) (pa_cons (pe_ix (ixT K) (pv 8) pe_int (fun _ _ => rfl)) pa_nil)))))
  (pss_one (ps_if (pt_not (pt_val (pe_call (ok__law_same T) (hr.mono (by decide)) rfl T.m__law_same T.F__law_same.kp (b__law_same T) .nil pass0 (pa_cons (pv 10) (pa_cons (pe_callKO (ok_cut_rope T) (hr.mono (by decide)) rfl T.m_cut_rope T.F_cut_rope.kp (kb_cut_rope_tie_rope_book T) passL (pk_cons (pe_tup (pa_cons (pe_ix (ixT K) (pv 8) pe_int (fun _ _ => rfl)) (pa_cons (pe_ix (ixT K) (pv 8) pe_int (fun _ _ => rfl)) pa_nil))) (pk_cons (pv 7) (pk_cons (pv 1) pk_nil)))) pa_nil))))) (pss_one (ps_ret pe_bl))
  pss_nil))))))
  (pss_one (ps_ret pe_bl))))), ?_⟩
    have snH : ∀ {H' : Hp}, Mv S S H H' → Seen K P w H' v R U n rows B xs us := fun m => (sn.same m.same).same (hide_same _ _)
    have hmH : ∀ {H' : Hp}, Mv S S H H' → MidsAt K P w H' d n rows ks := fun m => (hm0.same m.same).same (hide_same _ _)
    have hB := sn.bw
    have hne := sn.ne
    have hfew := sn.few
    have under : ∀ {H' : Hp}, Mv S S H H' → ∀ {r : Rope}, r ∈ ropesL n rows → ∃ p ys, kdGet us r = some (.ref p) ∧ SqL K (hide S H') p ys ∧ RpAll K (hide S H') ys ((piecesL n rows r).map dRope) := fun m r hr => (sn.same m.same).under.vals r hr
    have lxs := sn.all.length
    rw [List.length_map] at lxs
    let ro : Nat → Rope := fun j => (ropesL n rows).getD j (0, 0, [])
    have atX : ∀ {j : Nat} {x : V}, xs[j]? = some x → ro j ∈ ropesL n rows ∧ Rp K (hide S H) x (dRope (ro j)) := fun {j x} hx => by
      obtain ⟨dd, hd, rd⟩ := sn.all.get hx
      rw [List.getElem?_map] at hd
      obtain ⟨r, hr1, er⟩ := Option.map_eq_some_iff.mp hd
      have e : ro j = r := by show (ropesL n rows).getD j (0, 0, []) = r; rw [List.getD_eq_getElem?_getD, hr1]; rfl
      rw [e]
      exact ⟨List.mem_of_getElem? hr1, er ▸ rd⟩
    -- the most pieces
    have sR := (snH (Mv.refl st)).ropes
    refine ⟨_, rfl, R, rfl, ⟨_, sR⟩, fun D hD => ?_⟩
    refine lcL (K := K) (xs := xs) (fun _ => true) (fun j => .int (((piecesL n rows (ro j)).length : Nat) : Int)) hD sR hfew (fun _ _ _ => rfl) (fun j x H1 hj s1 Q1 Q2 k1 k2 => ?_) (fun zs H1 s1 hz1 rz => ?_)
    · obtain ⟨hr1, rx⟩ := atX hj
      have m1 := Mv.of st s1
      have rx1 : Rp K H1 x (dRope (ro j)) := (rx.same m1.same).same (hide_same _ _)
      obtain ⟨xa, xc, rfl, _, _⟩ := rp_rope rx1
      obtain ⟨p, ys, hp, hy, ry⟩ := under m1 hr1
      have lys := ry.length
      rw [List.length_map] at lys
      have sn1 := snH m1
      refine ⟨rfl, _, rfl, _, rfl, U, xa, us, ro j, .ref p, rfl, rfl, .inl sn1.under.at_, sn1.under.kk, rx1, hp, p, _, rfl, .inl ((hide_same _ _).seq hy), ?_⟩
      rw [lys]
      exact k1 rfl _ _ (Same.refl _) (.int _)
    · rw [filter_true, lxs] at rz
      have ez := RpAll.ofInts (ns := (List.range (ropesL n rows).length).map fun j => (((piecesL n rows (ro j)).length : Nat) : Int)) (by rw [List.map_map]; exact rz)
      subst ez
      refine ⟨D, _, rfl, SqL.of hz1, by rw [List.length_map, List.length_range]; omega, fun most hmost _ => ?_⟩
      obtain ⟨jm, hjm, ejm⟩ := List.mem_map.mp hmost
      have hjm := List.mem_range.mp hjm
      have m1 := Mv.of st s1
      -- the widest
      have sR1 := (snH m1).ropes
      refine ⟨_, rfl, R, rfl, ⟨_, sR1⟩, fun W hW => ?_⟩
      refine lcL (K := K) (xs := xs) (fun j => decide ((((piecesL n rows (ro j)).length : Nat) : Int) = most)) (fun j => dRope (ro j)) hW sR1 hfew (fun _ _ _ => noL_rope _) (fun j x H2 hj s2 Q1 Q2 k1 k2 => ?_) (fun ws H2 s2 hz2 rw2 => ?_)
      · obtain ⟨hr1, rx⟩ := atX hj
        have m2 := m1.then s2
        have rx1 : Rp K H2 x (dRope (ro j)) := (rx.same m2.same).same (hide_same _ _)
        obtain ⟨xa, xc, rfl, _, _⟩ := rp_rope rx1
        obtain ⟨p, ys, hp, hy, ry⟩ := under m2 hr1
        have lys := ry.length
        rw [List.length_map] at lys
        have sn1 := snH m2
        refine ⟨rfl, _, rfl, _, rfl, U, xa, us, ro j, .ref p, rfl, rfl, .inl sn1.under.at_, sn1.under.kk, rx1, hp, p, _, rfl, .inl ((hide_same _ _).seq hy), _, rfl, rfl, _, rfl, ?_⟩
        rw [lys]
        show if decide (V.int (((piecesL n rows (ro j)).length : Nat) : Int) = V.int most) = true then _ else _
        have ed : decide (V.int (((piecesL n rows (ro j)).length : Nat) : Int) = V.int most) = decide ((((piecesL n rows (ro j)).length : Nat) : Int) = most) := by
          rw [decide_eq_decide]
          constructor
          · intro e; injection e
          · intro e; rw [e]
        rw [ed]
        cases cc : decide ((((piecesL n rows (ro j)).length : Nat) : Int) = most) with
        | false => exact iteF (k2 cc _ (Same.refl _))
        | true => exact iteT ⟨_, rfl, k1 cc _ _ (Same.refl _) rx1⟩
      · have WS : W ≠ S := free_ne m1.ok hW
        have m2 := m1.then s2
        have inW : RopesIn K (hide S H2) n rows ws := fun x hx => by
          obtain ⟨i, hi, ei⟩ := List.getElem_of_mem hx
          obtain ⟨dd, hd, rd⟩ := rw2.get (i := i) (v := x) (by rw [List.getElem?_eq_getElem hi, ei])
          rw [List.getElem?_map] at hd
          obtain ⟨j, hj, ej⟩ := Option.map_eq_some_iff.mp hd
          subst ej
          have hj2 := List.mem_range.mp (List.mem_filter.mp (List.mem_of_getElem? hj)).1
          obtain ⟨hr1, _⟩ := atX (j := j) (x := xs[j]) (List.getElem?_eq_getElem hj2)
          exact ⟨_, hr1, rp_hide m2.ok (noL_rope _) rd⟩
        have lws := rw2.length
        rw [List.length_map] at lws
        have lw0 : 0 < ws.length := by
          rw [lws]
          refine List.length_pos_of_mem (a := jm) (List.mem_filter.mpr ⟨List.mem_range.mpr (by omega), ?_⟩)
          rw [← ejm]
          simp
        have lw1 : ws.length ≤ 1000 := by
          have := List.length_filter_le (fun j => decide ((((piecesL n rows (ro j)).length : Nat) : Int) = most)) (List.range xs.length)
          rw [List.length_range] at this
          omega
        clear rw2 lws
        -- two ropes
        refine ⟨_, rfl, _, rfl, _, rfl, W, _, rfl, .inl (SqL.of hz2), S, ((ws.length : Nat) : Int), rfl, m2.ok, by omega, fun r0 H3 a0 a1 m3 => ?_⟩
        have gW3 := m3.get WS hz2
        obtain ⟨x0, hx0⟩ : ∃ y, ws[r0.toNat]? = some y := ⟨_, List.getElem?_eq_getElem (by omega)⟩
        obtain ⟨f0, hf0, rf0⟩ := inW x0 (List.mem_of_getElem? hx0)
        have m23 := m2.trans m3
        refine ⟨W, _, _, _, rfl, rfl, SqL.of gW3, at_of (j := r0.toNat) (by omega) hx0, ?_⟩
        refine ⟨_, rfl, _, rfl, _, rfl, R, _, rfl, .inl (snH m23).ropes, S, ((xs.length : Nat) : Int), rfl, m23.ok, by omega, fun r1 H4 b0 b1 m4 => ?_⟩
        obtain ⟨x1, hx1⟩ : ∃ y, xs[r1.toNat]? = some y := ⟨_, List.getElem?_eq_getElem (by omega)⟩
        obtain ⟨f1, hf1, rf1⟩ := sn.inn x1 (List.mem_of_getElem? hx1)
        have m24 := m23.trans m4
        refine ⟨R, _, _, _, rfl, rfl, (snH m24).ropes, at_of (j := r1.toNat) (by omega) hx1, ?_⟩
        refine ⟨(by show 2 ≤ sizeLine; decide), fun F hF => ?_⟩
        have sF := same_upd (o := .lst [x0, x1]) hF
        have gF : upd H4 F (.lst [x0, x1]) F = some (.lst [x0, x1]) := upd_same
        have FS : F ≠ S := free_ne m4.ok hF
        generalize upd H4 F (.lst [x0, x1]) = H5 at sF gF ⊢
        have m5 := m24.then sF
        have inF : RopesIn K (hide S H5) n rows [x0, x1] := fun x hx => by
          rcases List.mem_cons.mp hx with rfl | hx
          · exact ⟨f0, hf0, rf0.same (m3.trans (m4.then sF)).same⟩
          · rw [List.mem_singleton] at hx
            exact ⟨f1, hf1, hx ▸ rf1.same m5.same⟩
        refine ⟨F, rfl, ⟨_, SqL.of gF⟩, for_list (K := K) (a := F) (xs := [x0, x1]) (fun i σ H6 => ∃ v7 v8 v9 v10 v11 v12 v13 : Option V, σ = [some (.ref S), some v, some (.ref d), some (.ref R), some (.ref U), some (.int most), some (.ref W), v7, v8, v9, v10, v11, v12, v13, none, none] ∧ Mv S S H5 H6) ⟨_, _, _, _, _, _, _, rfl, Mv.refl m5.ok⟩ (fun i σ H6 _ ⟨_, _, _, _, _, _, _, _, m6⟩ => SqL.of (m6.get FS gF)) (fun i x σ H6 hx ⟨v7, v8, v9, v10, v11, v12, v13, e1, m6⟩ => ?_) (fun σ H6 ⟨v7, v8, v9, v10, v11, v12, v13, e1, m6⟩ => ?_)⟩
        · subst e1
          obtain ⟨r, hr1, rx⟩ := inF x (List.mem_of_getElem? hx)
          have rx := rx.same m6.same
          have fr : ∀ {H' : Hp}, Mv S S H6 H' → Rp K H' x (dRope r) := fun m => (rx.same m.same).same (hide_same _ _)
          obtain ⟨xa, xc, rfl, _, _⟩ := rp_rope (fr (Mv.refl m6.ok))
          have m06 := m5.trans m6
          obtain ⟨p, ys, hp, hy, ry⟩ := under m06 hr1
          have lys := ry.length
          rw [List.length_map] at lys
          have lpc := pieces_le hB hr1
          have ly0 : 0 < ys.length := by
            rw [lys]
            exact List.length_pos_of_mem (self_piece hr1)
          have sn6 := snH m06
          -- one of its pieces
          refine ⟨_, rfl, _, rfl, U, xa, us, r, .ref p, rfl, rfl, .inl sn6.under.at_, sn6.under.kk, fr (Mv.refl m6.ok), hp, ?_⟩
          refine ⟨_, rfl, _, rfl, _, rfl, U, xa, us, r, .ref p, rfl, rfl, .inl sn6.under.at_, sn6.under.kk, fr (Mv.refl m6.ok), hp, p, _, rfl, .inl ((hide_same _ _).seq hy), ?_⟩
          refine ⟨S, ((ys.length : Nat) : Int), rfl, m06.ok, by omega, fun r2 H7 c0 c1 m7 => ?_⟩
          obtain ⟨z, hz⟩ : ∃ y, ys[r2.toNat]? = some y := ⟨_, List.getElem?_eq_getElem (by omega)⟩
          obtain ⟨dd, hd, rd⟩ := ry.get hz
          rw [List.getElem?_map] at hd
          obtain ⟨o, ho1, eo⟩ := Option.map_eq_some_iff.mp hd
          subst eo
          have ho := List.mem_of_getElem? ho1
          have hoR := piece_rope hB hr1 ho
          refine ⟨p, _, _, _, rfl, rfl, (hide_same _ _).seq (m7.same.seq hy), at_of (j := r2.toNat) (by omega) hz, ?_⟩
          have m07 := m06.trans m7
          have fz : ∀ {H' : Hp}, Mv S S H7 H' → Rp K H' z (dRope o) := fun m => ((rd.same m7.same).same m.same).same (hide_same _ _)
          obtain ⟨za, zc, rfl, _, _⟩ := rp_rope (fz (Mv.refl m7.ok))
          have fr7 : ∀ {H' : Hp}, Mv S S H7 H' → Rp K H' (.ref xa) (dRope r) := fun m => fr (m7.trans m)
          clear fr
          refine ⟨_, rfl, _, rfl, (by show 2 ≤ sizeLine; decide), fun G hG => ?_⟩
          have sG := same_upd (o := .lst [V.ref xa, .ref za]) hG
          have gG : upd H7 G (.lst [V.ref xa, .ref za]) G = some (.lst [V.ref xa, .ref za]) := upd_same
          have GS : G ≠ S := free_ne m7.ok hG
          generalize upd H7 G (.lst [V.ref xa, .ref za]) = H8 at sG gG ⊢
          have m78 := Mv.of m7.ok sG
          have inG : ∀ (i : Nat) (x : V), [V.ref xa, .ref za][i]? = some x → ∃ (a : Addr) (q : Rope), x = .ref a ∧ q ∈ piecesL n rows r ∧ ∀ {H' : Hp}, Mv S S H7 H' → Rp K H' x (dRope q) := fun i x hx => by
            match i, hx with
            | 0, hx => cases hx; exact ⟨_, r, rfl, self_piece hr1, fr7⟩
            | 1, hx => cases hx; exact ⟨_, o, rfl, ho, fz⟩
            | i + 2, hx => simp at hx
          refine ⟨G, rfl, ⟨_, SqL.of gG⟩, for_list (K := K) (a := G) (xs := [V.ref xa, .ref za]) (fun i σ H9 => ∃ v9 v10 v11 v12 v13 : Option V, σ = [some (.ref S), some v, some (.ref d), some (.ref R), some (.ref U), some (.int most), some (.ref W), some (.ref xa), some (.ref za), v9, v10, v11, v12, v13, none, none] ∧ Same H8 H9) ⟨_, _, _, _, _, rfl, Same.refl _⟩ (fun i σ H9 _ ⟨_, _, _, _, _, _, s9⟩ => SqL.of (s9 _ _ gG)) (fun i x σ H9 hx ⟨v9, v10, v11, v12, v13, e1, s9⟩ => ?_) (fun σ H9 ⟨v9, v10, v11, v12, v13, e1, s9⟩ => ?_)⟩
          · subst e1
            obtain ⟨qa, q, rfl, hq, fq⟩ := inG i x hx
            have hqR := piece_rope hB hr1 hq
            have m79 := m78.then s9
            have m09 := m07.trans m79
            have rq9 := fq m79
            obtain ⟨qa', qc, eqa, sq9, _⟩ := rp_rope rq9
            cases eqa
            obtain ⟨q0, qlt, qn, qt⟩ := piece_ends hB.wh hB.te hr1 hq
            have hm9 := hmH m09
            obtain ⟨pv, hpv, tpv⟩ := hm9.vals q.1 q.2.1 (midKeys_of q0 qlt qn qt)
            have lbt := btw_len (rows := rows) hB.n10 (x := q.1) (y := q.2.1) q0 qn
            refine ⟨_, rfl, qa, _, 0, _, rfl, rfl, sq9, rfl, _, rfl, qa, _, 1, _, rfl, rfl, sq9, rfl, (by show 2 ≤ sizeLine; decide), fun L1 hL1 => ?_⟩
            have sL1 := same_upd (o := .lst [V.int q.1, .int q.2.1]) hL1
            have gL1 : upd H9 L1 (.lst [V.int q.1, .int q.2.1]) L1 = some (.lst [V.int q.1, .int q.2.1]) := upd_same
            generalize upd H9 L1 (.lst [V.int q.1, .int q.2.1]) = HA at sL1 gL1 ⊢
            have sqA := seqT sL1 sq9
            refine ⟨_, rfl, _, rfl, qa, _, 0, _, rfl, rfl, sqA, rfl, _, rfl, qa, _, 1, _, rfl, rfl, sqA, rfl, (by show 2 ≤ sizeLine; decide), fun u1 hu1 => ?_⟩
            have su1 := same_upd (o := .tup [V.int q.1, .int q.2.1]) hu1
            have ru1 : Rp K (upd HA u1 (.tup [V.int q.1, .int q.2.1])) (.ref u1) (pairK.enc (q.1, q.2.1)) := TupI.rp (ns := [q.1, q.2.1]) ⟨SqT.of upd_same, by show 2 ≤ 1000; decide⟩
            generalize upd HA u1 (.tup [V.int q.1, .int q.2.1]) = HB at su1 ru1 ⊢
            have s9B := sL1.trans su1
            have hmB := hm9.same s9B
            refine ⟨d, u1, ks, (q.1, q.2.1), .ref pv, rfl, rfl, .inl hmB.at_, hmB.kk, ru1, hpv, ?_⟩
            obtain ⟨bt, ebt⟩ : ∃ bt, bt = btw n rows q.1 q.2.1 := ⟨_, rfl⟩
            rw [← ebt] at tpv lbt
            dsimp only [tNil]
            refine lstT_use (.inr (tpv.same s9B).1) fun L2 HC sC hL2 gL2 => ?_
            refine ⟨L1, L2, _, _, rfl, rfl, SqL.of ((su1.trans sC) _ _ gL1), SqL.of gL2, by rw [List.length_map]; show 2 + _ ≤ _; omega, fun L3 hL3 => ?_⟩
            have sL3 := same_upd (o := .lst ([V.int q.1, .int q.2.1] ++ bt.map V.int)) hL3
            have gL3 : upd HC L3 (.lst ([V.int q.1, .int q.2.1] ++ bt.map V.int)) L3 = some (.lst ((q.1 :: q.2.1 :: bt).map V.int)) := upd_same
            generalize upd HC L3 (.lst ([V.int q.1, .int q.2.1] ++ bt.map V.int)) = HD at sL3 gL3 ⊢
            refine ⟨L3, _, rfl, SqL.of gL3, fun ts L4 pm _ hL4 => ?_⟩
            have sL4 := same_upd (o := .lst (ts.map V.int)) hL4
            have gL4 : upd HD L4 (.lst (ts.map V.int)) L4 = some (.lst (ts.map V.int)) := upd_same
            generalize upd HD L4 (.lst (ts.map V.int)) = HE at sL4 gL4 ⊢
            have s9E := ((s9B.trans sC).trans sL3).trans sL4
            have mts : ∀ z ∈ ts, z ∈ thingsR n rows q := fun z hz => by
              have := pm.mem_iff.mp hz
              rw [ebt] at this
              refine thingsT_mem.mpr ?_
              rcases List.mem_cons.mp this with h | this
              · exact .inl h
              · rcases List.mem_cons.mp this with h | h
                · exact .inr (.inr h)
                · exact .inr (.inl h)
            have lts : ts.length ≤ 10 := by
              have := pm.length_eq
              simp at this
              omega
            clear pm
            have m7E := m79.then s9E
            have m0E := m09.then s9E
            refine ⟨_, rfl, L4, rfl, ⟨_, SqL.of gL4⟩, for_list (K := K) (a := L4) (xs := ts.map V.int) (fun i σ HF => ∃ v10 v11 v13 : Option V, σ = [some (.ref S), some v, some (.ref d), some (.ref R), some (.ref U), some (.int most), some (.ref W), some (.ref xa), some (.ref za), some (.ref qa), v10, v11, some (.ref L4), v13, none, none] ∧ Same HE HF) ⟨_, _, _, rfl, Same.refl _⟩ (fun i σ HF _ ⟨_, _, _, _, sF⟩ => SqL.of (sF _ _ gL4)) (fun i x σ HF hx ⟨v10, v11, v13, e1, sF⟩ => ?_) (fun σ HF ⟨v10, v11, v13, e1, sF⟩ => ?_)⟩
            · subst e1
              obtain ⟨a, ha, rfl⟩ := intAt hx
              have haq := mts a (List.mem_of_getElem? ha)
              have gLF := sF _ _ gL4
              refine ⟨_, rfl, L4, rfl, ⟨_, SqL.of gLF⟩, fun D2 hD2 => ?_⟩
              refine lcL (K := K) (xs := ts.map V.int) (fun j => decide (a < ts.getD j 0)) (fun j => .int (ts.getD j 0)) hD2 (SqL.of gLF) (by rw [List.length_map]; omega) (fun _ _ _ => rfl) (fun j z HG hj sG2 Q1 Q2 k1 k2 => ?_) (fun zs HG sG2 hzG rzG => ?_)
              · obtain ⟨y, hy2, rfl⟩ := intAt hj
                have ey : ts.getD j 0 = y := by rw [List.getD_eq_getElem?_getD, hy2]; rfl
                rw [ey] at k1 k2
                refine ⟨rfl, _, rfl, _, rfl, _, _, rfl, rfl, _, rfl, ?_⟩
                show if decide (a < y) = true then _ else _
                cases cc : decide (a < y) with
                | false => exact iteF (k2 cc _ (Same.refl _))
                | true => exact iteT ⟨_, rfl, k1 cc _ _ (Same.refl _) (.int y)⟩
              · rw [List.length_map, filter_map_range (fun y : Int => decide (a < y)) (fun y : Int => PyData.int y) 0 ts] at rzG
                have ez := RpAll.ofInts (ns := ts.filter fun y => decide (a < y)) rzG
                subst ez
                have sEG := sF.trans sG2
                refine ⟨D2, rfl, ⟨_, SqL.of hzG⟩, for_list (K := K) (a := D2) (xs := (ts.filter fun y => decide (a < y)).map V.int) (fun i σ HH => ∃ v10 v13 : Option V, σ = [some (.ref S), some v, some (.ref d), some (.ref R), some (.ref U), some (.int most), some (.ref W), some (.ref xa), some (.ref za), some (.ref qa), v10, some (.int a), some (.ref L4), v13, none, none] ∧ Same HG HH) ⟨_, _, rfl, Same.refl _⟩ (fun i σ HH _ ⟨_, _, _, sH⟩ => SqL.of (sH _ _ hzG)) (fun i x σ HH hx ⟨v10, v13, e1, sH⟩ => ?_) (fun σ HH ⟨v10, v13, e1, sH⟩ => ⟨v10, _, v13, e1, sEG.trans sH⟩)⟩
                subst e1
                obtain ⟨b, hb, rfl⟩ := intAt hx
                obtain ⟨hbt, hab⟩ := List.mem_filter.mp (List.mem_of_getElem? hb)
                have hab : a < b := by simpa using hab
                have hbq := mts b hbt
                obtain ⟨tin, ta0, tbn, tt⟩ := tie_in hB hqR haq hbq hab
                have m7H := m7E.then (sEG.trans sH)
                have m0H := m0E.then (sEG.trans sH)
                have hmm := hmH m0H
                obtain ⟨p2, hp2, tp2⟩ := hmm.vals a b (midKeys_of ta0 hab tbn tt)
                have lb2 := btw_len (rows := rows) hB.n10 (x := a) (y := b) ta0 tbn
                refine ⟨_, rfl, _, rfl, _, rfl, _, rfl, _, rfl, (by show 2 ≤ sizeLine; decide), fun u2 hu2 => ?_⟩
                have su2 := same_upd (o := .tup [V.int a, .int b]) hu2
                have ru2 : Rp K (upd HH u2 (.tup [V.int a, .int b])) (.ref u2) (pairK.enc (a, b)) := TupI.rp (ns := [a, b]) ⟨SqT.of upd_same, by show 2 ≤ 1000; decide⟩
                generalize upd HH u2 (.tup [V.int a, .int b]) = HI at su2 ru2 ⊢
                have hmI := hmm.same su2
                have ecut : (cutR n rows r a b).2.2 = (btw n rows a b).filter fun w => decide (w ∈ r.2.2) := rfl
                obtain ⟨b2, eb2⟩ : ∃ b2, b2 = btw n rows a b := ⟨_, rfl⟩
                rw [← eb2] at tp2 lb2 ecut
                have tp3 := tp2.same su2
                have m7I := m7H.then su2
                obtain ⟨xa', xc', exa, sxI, tcI⟩ := rp_rope (fr7 m7I)
                cases exa
                refine ⟨d, u2, ks, (a, b), .ref p2, rfl, rfl, .inl hmI.at_, hmI.kk, ru2, hp2, p2, rfl, ⟨_, tp3.1⟩, fun D3 hD3 => ?_⟩
                refine lcT (K := K) (xs := b2.map V.int) (fun m => decide (b2.getD m 0 ∈ r.2.2)) (fun m => .int (b2.getD m 0)) hD3 tp3.1 (by rw [List.length_map]; omega) (fun _ _ _ => rfl) (fun m2 z HJ hj sJ Q1 Q2 k1 k2 => ?_) (fun zs HJ sJ hzJ rzJ => ?_)
                · obtain ⟨y, hy2, rfl⟩ := intAt hj
                  have ey : b2.getD m2 0 = y := by rw [List.getD_eq_getElem?_getD, hy2]; rfl
                  rw [ey] at k1 k2
                  refine ⟨rfl, _, rfl, _, rfl, xa, _, 2, _, rfl, rfl, seqT sJ sxI, rfl, xc', _, rfl, .inr (tcI.same sJ).1, rfl, flat_ints _, ?_⟩
                  refine ⟨_, rfl, ?_⟩
                  rw [inV_int]
                  show if decide (y ∈ r.2.2) = true then _ else _
                  cases c8 : decide (y ∈ r.2.2) with
                  | false => exact iteF (k2 c8 _ (Same.refl _))
                  | true => exact iteT ⟨_, rfl, k1 c8 _ _ (Same.refl _) (.int y)⟩
                · rw [List.length_map, filter_map_range (fun y : Int => decide (y ∈ r.2.2)) (fun y : Int => PyData.int y) 0 b2] at rzJ
                  have ez := RpAll.ofInts (ns := b2.filter fun y => decide (y ∈ r.2.2)) rzJ
                  subst ez
                  rw [← ecut] at hzJ
                  have lcut : (cutR n rows r a b).2.2.length ≤ 1000 := by
                    rw [ecut]
                    have := List.length_filter_le (fun y => decide (y ∈ r.2.2)) b2
                    omega
                  obtain ⟨ct, ect⟩ : ∃ ct, ct = cutR n rows r a b := ⟨_, rfl⟩
                  have ec1 : ct.1 = a := by rw [ect]; rfl
                  have ec2 : ct.2.1 = b := by rw [ect]; rfl
                  rw [← ect] at hzJ lcut
                  dsimp only [tNil]
                  refine tupL_use (SqL.of hzJ) fun pp HL sL hpp => ?_
                  refine ⟨(by show 3 ≤ sizeLine; decide), fun q3 hq3 => ?_⟩
                  have sq3 := same_upd (o := .tup [V.int a, .int b, .ref pp]) hq3
                  have rq3 : Rp K (upd HL q3 (.tup [V.int a, .int b, .ref pp])) (.ref q3) (dRope ct) := .tup (SqT.of upd_same) (by show 3 ≤ 1000; decide) (.cons (by rw [ec1]; exact .int a) (.two (by rw [ec2]; exact .int b) (TupI.rp ⟨seqT sq3 hpp, lcut⟩)))
                  have sHM := ((su2.trans sJ).trans sL).trans sq3
                  generalize upd HL q3 (.tup [V.int a, .int b, .ref pp]) = HM at rq3 sHM ⊢
                  have m7M := m7H.then sHM
                  have m0M := m0H.then sHM
                  -- the program's cut
                  refine ⟨_, rfl, _, rfl, _, rfl, _, rfl, _, rfl, (by show 2 ≤ sizeLine; decide), fun u4 hu4 => ?_⟩
                  have su4 := same_upd (o := .tup [V.int a, .int b]) hu4
                  have ru4 : Rp K (upd HM u4 (.tup [V.int a, .int b])) (.ref u4) (dTup [a, b]) := TupI.rp (ns := [a, b]) ⟨SqT.of upd_same, by show 2 ≤ 1000; decide⟩
                  generalize upd HM u4 (.tup [V.int a, .int b]) = HN at su4 ru4 ⊢
                  refine ⟨v, .ref qa, .ref u4, dRope q, dTup [a, b], n, rows, rfl, (snH m0M).book.same su4, (fq m7M).same su4, ru4, hB.bk, fun c => absurd c (by rw [isRope_of hqR]; decide), fun r' er _ c => absurd c (by rw [← dRope_inj er, tin]; decide), fun r' x' y' er exy _ _ z HO sO rz => ?_⟩
                  obtain rfl := dRope_inj er
                  have exy := dTup_back exy
                  injection exy with ex exy
                  injection exy with ey _
                  subst ex ey
                  refine ⟨.ref q3, z, _, _, rfl, (rq3.same su4).same sO, rz, noL_rope _, Nat.le_trans (deep_rope _) (by decide), fun b HP sP hb => ⟨_, rfl, ?_⟩⟩
                  rw [hb.mpr (by rw [ect, piece_cut hB hr1 hq haq hbq])]
                  exact iteF ⟨_, _, rfl, ((sH.trans sHM).trans su4).trans (sO.trans sP)⟩
            · subst e1
              exact ⟨_, _, _, _, _, rfl, s9.trans (s9E.trans sF)⟩
          · subst e1
            have m79 := m78.then s9
            have m09 := m07.trans m79
            obtain ⟨za', zc', eza, sz9, tz9⟩ := rp_rope (fz m79)
            cases eza
            obtain ⟨o0, olt, on, ot⟩ := piece_ends hB.wh hB.te hr1 ho
            refine ⟨_, rfl, za, _, 0, _, rfl, rfl, sz9, rfl, _, rfl, za, _, 1, _, rfl, rfl, sz9, rfl, _, rfl, za, _, 2, _, rfl, rfl, sz9, rfl, (by show 3 ≤ sizeLine; decide), fun q3 hq3 => ?_⟩
            have sq3 := same_upd (o := .tup [V.int o.1, .int o.2.1, .ref zc']) hq3
            have rq3 : Rp K (upd H9 q3 (.tup [V.int o.1, .int o.2.1, .ref zc'])) (.ref q3) (dRope o) := .tup (SqT.of upd_same) (by show 3 ≤ 1000; decide) (.cons (.int _) (.two (.int _) (tz9.same sq3).rp))
            generalize upd H9 q3 (.tup [V.int o.1, .int o.2.1, .ref zc']) = HA at sq3 rq3 ⊢
            have szA := seqT sq3 sz9
            refine ⟨_, rfl, _, rfl, za, _, 0, _, rfl, rfl, szA, rfl, _, rfl, za, _, 1, _, rfl, rfl, szA, rfl, (by show 2 ≤ sizeLine; decide), fun u4 hu4 => ?_⟩
            have su4 := same_upd (o := .tup [V.int o.1, .int o.2.1]) hu4
            have ru4 : Rp K (upd HA u4 (.tup [V.int o.1, .int o.2.1])) (.ref u4) (dTup [o.1, o.2.1]) := TupI.rp (ns := [o.1, o.2.1]) ⟨SqT.of upd_same, by show 2 ≤ 1000; decide⟩
            generalize upd HA u4 (.tup [V.int o.1, .int o.2.1]) = HB at su4 ru4 ⊢
            obtain ⟨a, ha, b, hb, ab, eo⟩ := pieces_mem.mp ho
            have ea : o.1 = a := by rw [eo]; rfl
            have eb : o.2.1 = b := by rw [eo]; rfl
            obtain ⟨tin, _, _, _⟩ := tie_in hB hr1 (x := o.1) (y := o.2.1) (by rw [ea]; exact ha) (by rw [eb]; exact hb) olt
            have m7B := m79.then (sq3.trans su4)
            have m0B := m09.then (sq3.trans su4)
            refine ⟨_, rfl, _, rfl, v, .ref xa, .ref u4, dRope r, dTup [o.1, o.2.1], n, rows, rfl, (snH m0B).book, fr7 m7B, ru4, hB.bk, fun c => absurd c (by rw [isRope_of hr1]; decide), fun r' er _ c => absurd c (by rw [← dRope_inj er, tin]; decide), fun r' x' y' er exy _ _ z HO sO rz => ?_⟩
            obtain rfl := dRope_inj er
            have exy := dTup_back exy
            injection exy with ex exy
            injection exy with ey _
            subst ex ey
            refine ⟨.ref q3, z, _, _, rfl, (rq3.same su4).same sO, rz, noL_rope _, Nat.le_trans (deep_rope _) (by decide), fun b' HP sP hb' => ⟨_, rfl, ?_⟩⟩
            rw [hb'.mpr (by rw [ea, eb, ← eo])]
            exact iteF ⟨_, _, _, _, _, _, _, rfl, (m6.trans (m7.trans m79)).then (((sq3.trans su4).trans sO).trans sP)⟩
        · subst e1
          exact k _ (m5.trans m6)
end
end LK
/-! what lies above a lot of ropes -/
namespace LK
open PySem PySem.Spec PyProof.Rows L2
variable {n : Int} {rows B : List (List Int)}
theorem piece_trans (hB : BookW n rows B) {r q o : Rope} (hr : r ∈ ropesL n rows) (hq : q ∈ piecesL n rows r) (ho : o ∈ piecesL n rows q) : o ∈ piecesL n rows r := by
  obtain ⟨q0, qlt, qn, qt⟩ := piece_ends hB.wh hB.te hr hq
  obtain ⟨lo, hi, e1, e2, lt, _, t, _⟩ := rope_mem.mp hr
  obtain ⟨x, hx, y, hy, xy, rfl⟩ := pieces_mem.mp ho
  have rt : tiedB rows r.1 r.2.1 = true := by rw [e1, e2]; exact t
  obtain ⟨a, ha, b, hb, ab, eq⟩ := pieces_mem.mp hq
  have ea : q.1 = a := by rw [eq]; rfl
  have eb : q.2.1 = b := by rw [eq]; rfl
  have up : ∀ z ∈ thingsR n rows q, z ∈ thingsR n rows r := fun z hz => by
    rcases thingsT_mem.mp hz with e | hz | e
    · rw [e, ea]; exact ha
    · rw [ea, eb] at hz
      exact thingsT_mem.mpr (.inr (.inl (whole_sub hB.wh hB.te (by omega) rt ha hb hz)))
    · rw [e, eb]; exact hb
  exact pieces_mem.mpr ⟨x, up x hx, y, up y hy, xy, piece_cut hB hr hq hx hy⟩
theorem above_mem {R : List Rope} (hR : ∀ r ∈ R, r ∈ ropesL n rows) {o : Rope} : o ∈ aboveL n rows R ↔ o ∈ ropesL n rows ∧ ∃ r ∈ R, r ∈ piecesL n rows o := by
  unfold aboveL
  rw [List.mem_filter, List.any_eq_true]
  constructor
  · rintro ⟨h1, r, hr, h2⟩
    exact ⟨h1, r, hr, (isCut_piece (rope_lt_ends (hR r hr)) h1).mp h2⟩
  · rintro ⟨h1, r, hr, h2⟩
    exact ⟨h1, r, hr, (isCut_piece (rope_lt_ends (hR r hr)) h1).mpr h2⟩
theorem lotsF_nodup : ∀ (k : Nat) {l : List Int}, l.length = k → l.Nodup → (lotsF l).Nodup
  | 0, l, h, _ => by
    rw [List.length_eq_zero_iff] at h
    subst h
    show ([[]] : List (List Int)).Nodup
    simp
  | k + 1, l, h, nd => by
    have ne : l ≠ [] := fun e => by rw [e] at h; cases h
    have el : l = l.dropLast ++ [l.getLast ne] := (List.dropLast_concat_getLast ne).symm
    rw [el] at nd ⊢
    obtain ⟨n1, _, n3⟩ := List.nodup_append.mp nd
    have ih := lotsF_nodup k (l := l.dropLast) (by rw [List.length_dropLast]; omega) n1
    have hx : l.getLast ne ∉ l.dropLast := fun z => n3 _ z _ (by simp) rfl
    generalize l.getLast ne = x at hx ⊢
    rw [lotsF_snoc]
    unfold lotG
    refine List.nodup_append.mpr ⟨ih, ?_, fun a ha b hb e => ?_⟩
    · rw [List.Nodup, List.pairwise_map]
      exact ih.imp fun z e => z (List.append_cancel_right e)
    · obtain ⟨c, _, rfl⟩ := List.mem_map.mp hb
      have := (lotsF_sub.mp ha).subset (show x ∈ a by rw [e]; simp)
      exact hx this
theorem ropesL_pw (n : Int) (rows : List (List Int)) (h : 0 ≤ n) (h10 : n ≤ 10) : (ropesL n rows).Pairwise fun a b => ropeRow a < ropeRow b := by
  refine srtRopes_pw ?_
  unfold ropesAll
  have up := ties_up (n := n) (rows := rows) (by omega)
  have nd : (tiesL n rows).Nodup := up.imp fun z e => by rw [e] at z; omega
  have key : ∀ t ∈ tiesL n rows, ∀ r ∈ ropesAt n rows t, t = [r.1, r.2.1] := fun t ht r hr => by
    obtain ⟨lo, hi, rfl, _⟩ := tiesL_in ht
    obtain ⟨A, _, rfl⟩ := List.mem_map.mp hr
    rfl
  have one : ∀ t ∈ tiesL n rows, (ropesAt n rows t).Nodup := fun t ht => by
    unfold ropesAt
    rw [List.Nodup, List.pairwise_map]
    refine (lotsF_nodup _ rfl (btw_nd n rows _ _)).imp fun z e => z ?_
    injection e with _ e
    injection e with _ e
  generalize tiesL n rows = L at nd key one
  induction L with
  | nil => exact List.nodup_nil
  | cons t L ih =>
    obtain ⟨n1, n2⟩ := List.nodup_cons.mp nd
    rw [List.flatMap_cons]
    refine List.nodup_append.mpr ⟨one t (by simp), ih n2 (fun u hu => key u (by simp [hu])) (fun u hu => one u (by simp [hu])), fun a ha b hb e => ?_⟩
    subst e
    obtain ⟨u, hu, hb⟩ := List.mem_flatMap.mp hb
    have e1 := key t (by simp) a ha
    have e2 := key u (by simp [hu]) a hb
    exact n1 (by rw [e1, ← e2]; exact hu)
theorem above_sub (n : Int) (rows : List (List Int)) (R : List Rope) : (aboveL n rows R).Sublist (ropesL n rows) := List.filter_sublist
theorem above_above (hB : BookW n rows B) {R : List Rope} (hR : ∀ r ∈ R, r ∈ ropesL n rows) : aboveL n rows (aboveL n rows R) = aboveL n rows R := by
  have hA : ∀ r ∈ aboveL n rows R, r ∈ ropesL n rows := fun r hr => (above_mem hR).mp hr |>.1
  unfold aboveL
  refine List.filter_congr fun o ho => ?_
  rw [Bool.eq_iff_iff]
  have e1 : ((ropesL n rows).filter fun o => R.any fun r => isCut n rows r o).any (fun r => isCut n rows r o) = true ↔ o ∈ aboveL n rows (aboveL n rows R) := by
    unfold aboveL
    rw [List.mem_filter]
    exact ⟨fun h => ⟨ho, h⟩, fun h => h.2⟩
  have e2 : (R.any fun r => isCut n rows r o) = true ↔ o ∈ aboveL n rows R := by
    unfold aboveL
    rw [List.mem_filter]
    exact ⟨fun h => ⟨ho, h⟩, fun h => h.2⟩
  rw [e1, e2]
  constructor
  · intro h
    obtain ⟨_, q, hq, hp⟩ := (above_mem hA).mp h
    obtain ⟨hq1, r, hr, hpr⟩ := (above_mem hR).mp hq
    exact (above_mem hR).mpr ⟨ho, r, hr, piece_trans hB ho hp hpr⟩
  · intro h
    exact (above_mem hA).mpr ⟨ho, o, h, self_piece ho⟩
theorem above_nil : aboveL n rows [] = [] := by
  unfold aboveL
  rw [List.filter_eq_nil_iff]
  intro o _
  simp
/-- each rope has a piece that has itself alone -/
theorem short_piece (hB : BookW n rows B) {o : Rope} (ho : o ∈ ropesL n rows) : ∃ q ∈ piecesL n rows o, (piecesL n rows q).length = 1 := by
  obtain ⟨lo, hi, e1, e2, lt, _, t, _⟩ := rope_mem.mp ho
  have lt' : o.1 < o.2.1 := by omega
  have t' : tiedB rows o.1 o.2.1 = true := by rw [e1, e2]; exact t
  have asc := things_asc (n := n) (rows := rows) lt'
  obtain ⟨y, hy, gt, least⟩ : ∃ y ∈ thingsR n rows o, o.1 < y ∧ ∀ z ∈ btw n rows o.1 o.2.1, y ≤ z := by
    cases hb : btw n rows o.1 o.2.1 with
    | nil => exact ⟨o.2.1, things_hi, lt', fun z hz => by cases hz⟩
    | cons y l =>
      have pw := btw_pw n rows o.1 o.2.1
      have hb2 : natI (betweenN n rows o.1 o.2.1) = y :: l := hb
      rw [hb2] at pw
      have hm : y ∈ btw n rows o.1 o.2.1 := by rw [hb]; simp
      refine ⟨y, thingsT_mem.mpr (.inr (.inl hm)), (btw_mem.mp hm).1, fun z hz => ?_⟩
      rcases List.mem_cons.mp hz with rfl | hz
      · omega
      · have := (List.pairwise_cons.mp pw).1 z hz
        omega
  have hx : o.1 ∈ thingsR n rows o := things_lo
  refine ⟨cutR n rows o o.1 y, pieces_mem.mpr ⟨o.1, hx, y, hy, gt, rfl⟩, ?_⟩
  have eb : btw n rows o.1 y = [] := by
    cases hb : btw n rows o.1 y with
    | nil => rfl
    | cons z l =>
      have hz : z ∈ btw n rows o.1 y := by rw [hb]; simp
      have := least z (whole_sub hB.wh hB.te lt' t' hx hy hz)
      have := (btw_mem.mp hz).2.1
      omega
  unfold piecesL thingsR
  rw [List.length_map]
  show (pairsL ((o.1 :: btw n rows o.1 y) ++ [y])).length = 1
  rw [eb]
  have c1 : decide (o.1 < y) = true := decide_eq_true gt
  have c2 : decide (o.1 < o.1) = false := decide_eq_false (by omega)
  have c3 : decide (y < o.1) = false := decide_eq_false (by omega)
  have c4 : decide (y < y) = false := decide_eq_false (by omega)
  simp [pairsL, List.flatMap_cons, List.filter_cons, c1, c2, c3, c4, gt]
  omega
theorem above_short (hB : BookW n rows B) : aboveL n rows ((ropesL n rows).filter fun q => decide ((piecesL n rows q).length = 1)) = ropesL n rows := by
  unfold aboveL
  rw [List.filter_eq_self]
  intro o ho
  obtain ⟨q, hq, lq⟩ := short_piece hB ho
  have hqR := piece_rope hB ho hq
  rw [List.any_eq_true]
  exact ⟨q, List.mem_filter.mpr ⟨hqR, by simpa using lq⟩, (isCut_piece (rope_lt_ends hqR) ho).mpr hq⟩
theorem risingR_of {R : List Rope} (h : R.Pairwise fun a b => ropeRow a < ropeRow b) : risingR R = true := by
  unfold risingR
  rw [List.all_eq_true]
  intro b hb
  obtain ⟨j, hj, rfl⟩ := List.mem_map.mp hb
  have hj := List.mem_range.mp hj
  show decide _ = true
  rw [decide_eq_true_eq, List.getD_eq_getElem?_getD, List.getD_eq_getElem?_getD, List.getElem?_eq_getElem (by omega), List.getElem?_eq_getElem (by omega)]
  exact List.pairwise_iff_getElem.mp h j (j + 1) (by omega) (by omega) (by omega)
theorem isRopes_of (h0 : 0 ≤ n) (h10 : n ≤ 10) {R : List Rope} (h : R.Sublist (ropesL n rows)) : isRopes n rows (dRopes R) = true := by
  show ((R.map dRope).all (isRope n rows) && risingR ((R.map dRope).map ropeOfD)) = true
  have e1 : (R.map dRope).all (isRope n rows) = true := by
    rw [List.all_map, List.all_eq_true]
    exact fun r hr => isRope_of (h.subset hr)
  have e2 : (R.map dRope).map ropeOfD = R := by
    rw [List.map_map]
    refine (List.map_congr_left fun r _ => ?_).trans (List.map_id R)
    exact dRope_inj (rope_back (d := dRope r) rfl)
  rw [e1, e2, risingR_of ((ropesL_pw n rows h0 h10).sublist h)]
  rfl
end LK
namespace LK
open PySem PySem.Spec PyProof.Rows L2
def spUpward (K : PySem.W.Frag) (P : Program) (w : World) : Sp := fun vs H Q _ => ∃ (u v : V) (R U : Addr) (n : Int) (rows B : List (List Int)) (xs : List V) (us : KDs Rope) (L : List Rope), vs = [.ref R, .ref U, u] ∧ Seen K P w H v R U n rows B xs us ∧ Rp K H u (dRopes L) ∧ (∀ r ∈ L, r ∈ ropesL n rows) ∧ ∀ z H', Same H H' → Rp K H' z (dRopes (aboveL n rows L)) → Q z H'
def spUppersRight (K : PySem.W.Frag) (P : Program) (w : World) : Sp := fun vs H Q _ => ∃ (S : Addr) (v : V) (R U : Addr) (n : Int) (rows B : List (List Int)) (xs : List V) (us : KDs Rope), vs = [.ref S, v, .ref R, .ref U] ∧ StOk H S S ∧ Seen K P w (hide S H) v R U n rows B xs us ∧ ∀ H', Mv S S H H' → Q (.bl true) H'
section
variable {P : Program} {w : World} {K : PySem.W.Frag} {mg : Str → Option Value} {base : Heap} {ad : Nat → Addr} {fd : Nat → FuncData}
theorem ok__law_upward (T : Txt K mg ad fd) : FnOk P w K mg base CX0 1 (ad 52) (fd 52) ["_law_ropes", "_law_under", "_law_lot"] (spUpward K P w) := by
  refine T.F__law_upward.ok sc__law_upward (fun vs H Q E h => ?_) (fun cdv A outer s H vs Q E hr h => ?_)
  · obtain ⟨u, v, R, U, n, rows, B, xs, us, L, rfl, _⟩ := h
    rfl
  · obtain ⟨u, v, R, U, n, rows, B, xs, us, L, rfl, sn, hu, hL, k⟩ := h
    refine ⟨_, (pss_cons (ps_set (i := 3) sc__law_upward.nd rfl (Or.inl rfl) (pe_lst pa_nil))
  (pss_cons (ps_for PassesOwn.never rfl (piL K (pv 0)) (pg_name (i := 4) (x := "_law_rope") sc__law_upward.nd rfl (Or.inl rfl))
  (pss_one (ps_if (pt_cmpR op_gt (pe_callB (lenS K) (by rfl) T.g_len (by decide +kernel) (pa_cons (pe_lc (own := [("_law_part", 5)]) (g := gName 5) rfl sc__law_upward.nd (piL K (pe_kdget ropeK K P w (hu65 hr) (pv 1) (pv 4) (fun _ _ => rfl))) (blkOk_by (N := ["_law_ropes", "_law_under", "_law_lot", "_law_out", "_law_rope", "_law_part"]) (sc := defScope s__law_upward) (by decide +kernel)) (fun _ _ _ _ _ => (pg_name (i := 5) (x := "_law_part") sc__law_upward.nd rfl (Or.inl rfl))) (fun _ _ _ _ _ => (pts_one (pt_cmpR (inRoT K (hu65 hr)) (pv 5) (pv 2) (by with_unfolding_all rfl)))) (fun _ _ _ _ _ => (pv 5))) pa_nil)) pe_int (nomark _)) (pss_one (ps_expr (pe_bmK K PySem.F.plainAttrs_list PySem.F.slot_list_append PySem.F.type_list_append mt_append (pv 3) (pa_cons (pv 4) pa_nil))))
  pss_nil)))
  (pss_one (ps_ret (pe_callTy (tupOf K) (by rfl) T.g_tuple (by decide +kernel) (pa_cons (pv 3) pa_nil)))))), ?_⟩
    have lxs := sn.all.length
    rw [List.length_map] at lxs
    have hfew := sn.few
    refine ⟨(by show 0 ≤ sizeLine; decide), fun O hO => ?_⟩
    have sO := same_upd (o := .lst []) hO
    let pr : Rope → Bool := fun o => L.any fun r => isCut n rows r o
    refine ⟨_, rfl, R, rfl, ⟨_, sO.seq sn.ropes⟩, for_list (K := K) (a := R) (xs := xs) (fun i σ H1 => ∃ (os : List V) (v4 : Option V), σ = [some (.ref R), some (.ref U), some u, some (.ref O), v4, none] ∧ Fill H O H1 os ∧ RpAll K H1 os ((((ropesL n rows).take i).filter pr).map dRope)) ⟨[], _, rfl, Fill.start hO, .nil⟩ (fun i σ H1 _ ⟨_, _, _, fl, _⟩ => fl.1.seq sn.ropes) (fun i x σ H1 hx ⟨os, v4, e1, fl, ro⟩ => ?_) (fun σ H1 ⟨os, v4, e1, fl, ro⟩ => ?_)⟩
    · subst e1
      have sn1 := sn.same fl.1
      obtain ⟨dd, hd, rx⟩ := sn1.all.get hx
      rw [List.getElem?_map] at hd
      obtain ⟨o, ho, eo⟩ := Option.map_eq_some_iff.mp hd
      subst eo
      have hoR := List.mem_of_getElem? ho
      obtain ⟨xa, xc, rfl, _, _⟩ := rp_rope rx
      obtain ⟨p, ys, hp, hy, ry⟩ := sn1.under.vals o hoR
      have lys := ry.length
      rw [List.length_map] at lys
      have lpc := pieces_le sn.bw hoR
      have los := ro.length
      rw [List.length_map] at los
      have lfl := List.length_filter_le pr ((ropesL n rows).take i)
      rw [List.length_take] at lfl
      have eT : (ropesL n rows).take (i + 1) = (ropesL n rows).take i ++ [o] := by rw [List.take_succ, ho]; rfl
      refine ⟨_, rfl, _, rfl, U, xa, us, o, .ref p, rfl, rfl, .inl sn1.under.at_, sn1.under.kk, rx, hp, p, rfl, ⟨_, hy⟩, fun D hD => ?_⟩
      let pc : Nat → Rope := fun j => (piecesL n rows o).getD j (0, 0, [])
      refine lcL (K := K) (xs := ys) (fun j => decide (pc j ∈ L)) (fun j => dRope (pc j)) hD hy (by omega) (fun _ _ _ => noL_rope _) (fun j z H2 hj s2 Q1 Q2 k1 k2 => ?_) (fun zs H2 s2 hz2 rz => ?_)
      · obtain ⟨dd, hd, rq⟩ := ry.get hj
        rw [List.getElem?_map] at hd
        obtain ⟨q, hq, eq⟩ := Option.map_eq_some_iff.mp hd
        subst eq
        have eq : pc j = q := by show (piecesL n rows o).getD j (0, 0, []) = q; rw [List.getD_eq_getElem?_getD, hq]; rfl
        rw [eq] at k1 k2
        refine ⟨rfl, _, rfl, _, rfl, q, L, rq.same s2, (hu.same fl.1).same s2, ?_⟩
        refine ⟨_, rfl, ?_⟩
        show if decide (q ∈ L) = true then _ else _
        cases cc : decide (q ∈ L) with
        | false => exact iteF (k2 cc _ (Same.refl _))
        | true => exact iteT ⟨_, rfl, k1 cc _ _ (Same.refl _) (rq.same s2)⟩
      · have lz := rz.length
        rw [List.length_map] at lz
        have hO2 : H2 O = some (.lst os) := s2 _ _ fl.2
        have fl2 : Fill H O H2 os := ⟨fl.1.trans s2, hO2⟩
        have ez : decide ((0 : Int) < ((zs.length : Nat) : Int)) = pr o := by
          rw [Bool.eq_iff_iff, decide_eq_true_eq]
          have e1 : pr o = true ↔ o ∈ aboveL n rows L := by
            unfold aboveL
            rw [List.mem_filter]
            exact ⟨fun h => ⟨hoR, h⟩, fun h => h.2⟩
          rw [e1, above_mem hL]
          constructor
          · intro h
            have h3 : 0 < ((List.range ys.length).filter fun j => decide (pc j ∈ L)).length := by omega
            obtain ⟨j, hj⟩ := List.exists_mem_of_length_pos h3
            obtain ⟨hj1, hj2⟩ := List.mem_filter.mp hj
            have hj1 := List.mem_range.mp hj1
            refine ⟨hoR, pc j, by simpa using hj2, ?_⟩
            show (piecesL n rows o).getD j (0, 0, []) ∈ _
            rw [List.getD_eq_getElem?_getD, List.getElem?_eq_getElem (by omega)]
            exact List.getElem_mem _
          · rintro ⟨_, q, hq, hqp⟩
            obtain ⟨j, hj, ej⟩ := List.getElem_of_mem hqp
            have : 0 < ((List.range ys.length).filter fun j => decide (pc j ∈ L)).length := by
              refine List.length_pos_of_mem (a := j) (List.mem_filter.mpr ⟨List.mem_range.mpr (by omega), ?_⟩)
              have eq : pc j = q := by show (piecesL n rows o).getD j (0, 0, []) = q; rw [List.getD_eq_getElem?_getD, List.getElem?_eq_getElem hj, ej]; rfl
              rw [eq]
              exact decide_eq_true hq
            omega
        refine ⟨D, _, rfl, .inl (SqL.of hz2), _, _, rfl, rfl, _, rfl, ?_⟩
        show if decide ((0 : Int) < ((zs.length : Nat) : Int)) = true then _ else _
        rw [ez]
        cases cp : pr o with
        | false =>
          refine iteF ⟨os, _, rfl, fl2, ?_⟩
          rw [eT, List.filter_append]
          have : [o].filter pr = [] := by rw [List.filter_cons_of_neg (by rw [cp]; decide)]; rfl
          rw [this, List.append_nil]
          exact ro.same s2
        | true =>
          refine iteT ⟨_, rfl, .inl ⟨rfl, _, SqL.of hO2⟩, _, rfl, O, _, _, rfl, rfl, hO2, Nat.lt_of_lt_of_le (by omega : os.length < 2000) (by decide), ?_⟩
          refine ⟨os ++ [.ref xa], _, rfl, fl2.push hO (Same.refl _), ?_⟩
          have : [o].filter pr = [o] := by rw [List.filter_cons_of_pos cp]; rfl
          rw [eT, List.filter_append, this, List.map_append]
          refine RpAll.upd hO2 ?_ ((ro.same s2).app (.one (rx.same s2)))
          have := noLs_ropes (((ropesL n rows).take i).filter pr ++ [o])
          rw [List.map_append] at this
          exact this
    · subst e1
      rw [lxs, List.take_length] at ro
      have los := ro.length
      rw [List.length_map] at los
      have lfl := List.length_filter_le pr (ropesL n rows)
      refine ⟨_, rfl, ?_⟩
      dsimp only [tNil]
      refine tupL_use (SqL.of fl.2) fun q H2 s2 hq => ?_
      exact k _ _ (fl.1.trans s2) (.tup hq (by omega) (ro.same s2))
theorem ok__law_uppers_right (T : Txt K mg ad fd) : FnOk P w K mg base CX0 10 (ad 53) (fd 53) ["_law_d", "_law_book", "_law_ropes", "_law_under"] (spUppersRight K P w) := by
  refine T.F__law_uppers_right.ok sc__law_uppers_right (fun vs H Q E h => ?_) (fun cdv A outer s H vs Q E hr h => ?_)
  · obtain ⟨S, v, R, U, n, rows, B, xs, us, rfl, _⟩ := h
    rfl
  · obtain ⟨S, v, R, U, n, rows, B, xs, us, rfl, st, sn, k⟩ := h
    refine ⟨_, (pss_cons (ps_for PassesOwn.never rfl (pi_range1 rfl T.g_range (pa_cons pe_int pa_nil)) (pg_name (i := 4) (x := "_law_k") sc__law_uppers_right.nd rfl (Or.inl rfl))
  (pss_cons (ps_set (i := 5) sc__law_uppers_right.nd rfl (Or.inl rfl) (pe_call (ok__law_some T) (hr.mono (by decide)) rfl T.m__law_some T.F__law_some.kp (b__law_some T) .nil pass0 (pa_cons (pv 0) (pa_cons (pv 2) pa_nil))))
  (pss_cons (ps_if (pt_cmpR op_eq (pv 4) pe_int (nomark _)) (pss_one (ps_set (i := 5) sc__law_uppers_right.nd rfl (Or.inl rfl) (pe_tup (pa_cons (pe_ix (ixL K) (pv 2) (pe_call (ok__law_take T) (hr.mono (by decide)) rfl T.m__law_take T.F__law_take.kp (b__law_take T) .nil pass0 (pa_cons (pv 0) (pa_cons (pe_callB (lenS K) (by rfl) T.g_len (by decide +kernel) (pa_cons (pv 2) pa_nil)) pa_nil))) (fun _ _ => rfl)) pa_nil))))
  pss_nil)
  (pss_cons (ps_set (i := 6) sc__law_uppers_right.nd rfl (Or.inl rfl) (pe_call (ok__law_upward T) (hr.mono (by decide)) rfl T.m__law_upward T.F__law_upward.kp (b__law_upward T) .nil pass0 (pa_cons (pv 2) (pa_cons (pv 3) (pa_cons (pv 5) pa_nil)))))
  (pss_one (ps_if (PW.pt (pw_or (pt_not (pt_val (pe_call (ok__law_same T) (hr.mono (by decide)) rfl T.m__law_same T.F__law_same.kp (b__law_same T) .nil pass0 (pa_cons (pv 6) (pa_cons (pe_call (ok_above_of T) (hr.mono (by decide)) rfl T.m_above_of T.F_above_of.kp (b_above_of T) .nil passL (pa_cons (pv 1) (pa_cons (pv 5) pa_nil))) pa_nil))))) (pw_or1 (pt_not (pt_val (pe_call (ok__law_same T) (hr.mono (by decide)) rfl T.m__law_same T.F__law_same.kp (b__law_same T) .nil pass0 (pa_cons (pv 6) (pa_cons (pe_callKO (ok_above_of T) (hr.mono (by decide)) rfl T.m_above_of T.F_above_of.kp (kb_above_of_ropes_book T) passL (pk_cons (pv 6) (pk_cons (pv 1) pk_nil))) pa_nil)))))))) (pss_one (ps_ret pe_bl))
  pss_nil))))))
  (pss_cons (ps_if (pt_not (pt_val (pe_call (ok__law_same T) (hr.mono (by decide)) rfl T.m__law_same T.F__law_same.kp (b__law_same T) .nil pass0 (pa_cons (pe_tup pa_nil) (pa_cons (pe_call (ok_above_of T) (hr.mono (by decide)) rfl T.m_above_of T.F_above_of.kp (b_above_of T) .nil passL (pa_cons (pv 1) (pa_cons (pe_tup pa_nil) pa_nil))) pa_nil))))) (pss_one (ps_ret pe_bl))
  pss_nil)
  (pss_one (ps_ret (pe_call (ok__law_same T) (hr.mono (by decide)) rfl T.m__law_same T.F__law_same.kp (b__law_same T) .nil pass0 (pa_cons (pe_callTy (tupOf K) (by rfl) T.g_tuple (by decide +kernel) (pa_cons (pv 2) pa_nil)) (pa_cons (pe_call (ok_above_of T) (hr.mono (by decide)) rfl T.m_above_of T.F_above_of.kp (b_above_of T) .nil passL (pa_cons (pv 1) (pa_cons (pe_callTy (tupOf K) (by rfl) T.g_tuple (by decide +kernel) (pa_cons (pe_lc (own := [("_law_rope", 7)]) (g := gName 7) rfl sc__law_uppers_right.nd (piL K (pv 2)) (blkOk_by (N := ["_law_d", "_law_book", "_law_ropes", "_law_under", "_law_k", "_law_lot", "_law_due", "_law_rope"]) (sc := defScope s__law_uppers_right) (by decide +kernel)) (fun _ _ _ _ _ => (pg_name (i := 7) (x := "_law_rope") sc__law_uppers_right.nd rfl (Or.inl rfl))) (fun _ _ _ _ _ => (pts_one (pt_cmpR op_eq (pe_callB (lenS K) (by rfl) T.g_len (by decide +kernel) (pa_cons (pe_kdget ropeK K P w (hu65 hr) (pv 3) (pv 7) (fun _ _ => rfl)) pa_nil)) pe_int (nomark _)))) (fun _ _ _ _ _ => (pv 7))) pa_nil)) pa_nil))) pa_nil))))))), ?_⟩
    have snH : ∀ {H' : Hp}, Mv S S H H' → Seen K P w H' v R U n rows B xs us := fun m => (sn.same m.same).same (hide_same _ _)
    have hB := sn.bw
    have hne := sn.ne
    have hfew := sn.few
    have lxs := sn.all.length
    rw [List.length_map] at lxs
    have h0 : 0 ≤ n := hB.bk.2.1
    have h10 := hB.n10
    have bkr : BookR n rows := ⟨hB.inn, h0, h10, Nat.le_trans (whole_few hB.wh hB.te h0 h10) (by decide)⟩
    have lab : ∀ L : List Rope, (aboveL n rows L).length ≤ 1000 := fun L => by
      have := (above_sub n rows L).length_le
      omega
    -- what the program says of a lot
    have ask : ∀ {u : V} {L : List Rope} {H1 : Hp} {Q1 : VK} {E1 : XK}, Mv S S H H1 → Rp K H1 u (dRopes L) → L.Sublist (ropesL n rows) → (∀ z H2, Same H1 H2 → Rp K H2 z (dRopes (aboveL n rows L)) → Q1 z H2) → spAbove K (ad 13) [v, u] H1 Q1 E1 := fun {u L H1 Q1 E1} m hu sub q => by
      refine ⟨v, u, dRopes L, n, rows, rfl, (snH m).book, hu, bkr, fun c => absurd c (by rw [isRopes_of h0 h10 sub]; decide), fun L' e _ z H2 s2 rz => ?_⟩
      have e2 : L = L' := by
        injection e with e
        exact (List.map_inj_right (f := dRope) fun a b h => dRope_inj h).mp e
      subst e2
      exact q z H2 s2 rz
    have subIn : ∀ {L : List Rope}, L.Sublist (ropesL n rows) → ∀ r ∈ L, r ∈ ropesL n rows := fun sub r hr => sub.subset hr
    refine ⟨2, rfl, by decide, by decide, ?_⟩
    refine for_range (lo := 0) (n := 2) (fun i σ H1 => ∃ v4 v5 v6 : Option V, σ = [some (.ref S), some v, some (.ref R), some (.ref U), v4, v5, v6, none] ∧ Mv S S H H1) ⟨_, _, _, rfl, Mv.refl st⟩ (fun i σ H1 hi ⟨v4, v5, v6, e1, m1⟩ => ?_) (fun σ H1 ⟨v4, v5, v6, e1, m1⟩ => ?_)
    · subst e1
      refine ⟨_, rfl, _, rfl, S, R, xs, ropesL n rows, rfl, m1.ok, (m1.same).seq sn.ropes, sn.all.same m1.same, by omega, fun t L H2 sub m2 rt => ?_⟩
      have m12 := m1.trans m2
      dsimp only [gName, tSeq, tAsg, tRet]
      refine use_nx (α := V × List Rope) (M := fun a σ' H' => σ' = [some (.ref S), some v, some (.ref R), some (.ref U), some (.int (0 + (i : Int))), some a.1, v6, none] ∧ Mv S S H H' ∧ Rp K (hide S H') a.1 (dRopes a.2) ∧ a.2.Sublist (ropesL n rows)) (fun a σ' H3 ⟨e, m3, ra, sub3⟩ => ?_) (fun nx => ?_)
      · subst e
        have ra3 := rp_show ra
        refine ⟨_, rfl, _, rfl, _, rfl, a.1, v, R, U, n, rows, B, xs, us, a.2, rfl, snH m3, ra3, subIn sub3, fun z H4 s4 rz => ?_⟩
        have m4 := m3.then s4
        obtain ⟨za, _, rfl, _, _, _⟩ := Rp.tupA (ds := (aboveL n rows a.2).map dRope) rz
        refine ⟨_, rfl, _, rfl, _, rfl, ask m4 (ra3.same s4) sub3 fun z2 H5 s5 rz2 => ?_⟩
        refine ⟨.ref za, z2, _, _, rfl, rz.same s5, rz2, noL_ropes _, deep_ropes _, fun b H6 s6 hb => ⟨_, rfl, ?_⟩⟩
        rw [hb.mpr rfl]
        refine iteF ?_
        have s46 := s5.trans s6
        have m6 := m4.then s46
        refine ⟨_, rfl, _, rfl, _, rfl, ask m6 (rz.same s46) (above_sub n rows a.2) fun z3 H7 s7 rz3 => ?_⟩
        refine ⟨.ref za, z3, _, _, rfl, (rz.same s46).same s7, rz3, noL_ropes _, deep_ropes _, fun b2 H8 s8 hb2 => ⟨_, rfl, ?_⟩⟩
        rw [hb2.mpr (by rw [above_above hB (subIn sub3)])]
        exact iteF ⟨_, _, _, rfl, m6.then (s7.trans s8)⟩
      · refine ⟨_, rfl, rfl, _, rfl, ?_⟩
        show if decide (V.int (0 + (i : Int)) = V.int 1) = true then _ else _
        cases decide (V.int (0 + (i : Int)) = V.int 1) with
        | false => exact iteF (nx (.ref t, L) _ H2 ⟨rfl, m12, rt, sub⟩)
        | true =>
          refine iteT ⟨_, rfl, _, rfl, _, rfl, R, _, rfl, .inl (snH m12).ropes, S, ((xs.length : Nat) : Int), rfl, m2.ok, by omega, fun r1 H3 b0 b1 m3 => ?_⟩
          have m13 := m12.trans m3
          obtain ⟨x, hx⟩ : ∃ y, xs[r1.toNat]? = some y := ⟨_, List.getElem?_eq_getElem (by omega)⟩
          obtain ⟨o, ho, rx⟩ := sn.inn x (List.mem_of_getElem? hx)
          refine ⟨R, _, _, _, rfl, rfl, (snH m13).ropes, at_of (j := r1.toNat) (by omega) hx, (by show 1 ≤ sizeLine; decide), fun q hq => ?_⟩
          have sq := same_upd (o := .tup [x]) hq
          have rq : Rp K (upd H3 q (.tup [x])) (.ref q) (dRopes [o]) := .tup (SqT.of upd_same) (by show 1 ≤ 1000; decide) (.one (((rx.same m13.same).same (hide_same _ _)).same sq))
          have m4 := m13.then sq
          exact nx (.ref q, [o]) _ _ ⟨rfl, m4, rp_hide m4.ok (noL_ropes _) rq, List.singleton_sublist.mpr ho⟩
    · subst e1
      have s0 := snH m1
      refine ⟨(by show 0 ≤ sizeLine; decide), fun q1 hq1 => ?_⟩
      have sq1 := same_upd (o := .tup []) hq1
      have rq1 : Rp K (upd H1 q1 (.tup [])) (.ref q1) (dRopes []) := .tup (SqT.of upd_same) (by show 0 ≤ 1000; decide) .nil
      generalize upd H1 q1 (.tup []) = H2 at sq1 rq1 ⊢
      refine ⟨_, rfl, (by show 0 ≤ sizeLine; decide), fun q2 hq2 => ?_⟩
      have sq2 := same_upd (o := .tup []) hq2
      have rq2 : Rp K (upd H2 q2 (.tup [])) (.ref q2) (dRopes []) := .tup (SqT.of upd_same) (by show 0 ≤ 1000; decide) .nil
      generalize upd H2 q2 (.tup []) = H3 at sq2 rq2 ⊢
      have m3 := m1.then (sq1.trans sq2)
      refine ask m3 rq2 (List.nil_sublist _) fun z H4 s4 rz => ?_
      refine ⟨.ref q1, z, _, _, rfl, (rq1.same sq2).same s4, rz, noL_ropes _, deep_ropes _, fun b H5 s5 hb => ⟨_, rfl, ?_⟩⟩
      rw [hb.mpr (by rw [above_nil])]
      refine iteF ?_
      have m5 := m3.then (s4.trans s5)
      have s6 := snH m5
      refine ⟨_, rfl, ?_⟩
      dsimp only [tNil]
      refine tupL_use s6.ropes fun q3 H6 sq3 hq3 => ?_
      have r3 : Rp K H6 (.ref q3) (dRopes (ropesL n rows)) := .tup hq3 (by omega) (s6.all.same sq3)
      have m6 := m5.then sq3
      have sn6 := snH m6
      refine ⟨_, rfl, _, rfl, R, rfl, ⟨_, sn6.ropes⟩, fun D hD => ?_⟩
      let ro : Nat → Rope := fun j => (ropesL n rows).getD j (0, 0, [])
      refine lcL (K := K) (xs := xs) (fun j => decide ((piecesL n rows (ro j)).length = 1)) (fun j => dRope (ro j)) hD sn6.ropes hfew (fun _ _ _ => noL_rope _) (fun j x H7 hj s7 Q1 Q2 k1 k2 => ?_) (fun zs H7 s7 hz7 rz7 => ?_)
      · have sn7 := sn6.same s7
        obtain ⟨dd, hd, rx⟩ := sn7.all.get hj
        rw [List.getElem?_map] at hd
        obtain ⟨o, ho, eo⟩ := Option.map_eq_some_iff.mp hd
        subst eo
        have e : ro j = o := by show (ropesL n rows).getD j (0, 0, []) = o; rw [List.getD_eq_getElem?_getD, ho]; rfl
        rw [e] at k1 k2
        obtain ⟨xa, xc, rfl, _, _⟩ := rp_rope rx
        obtain ⟨p, ys, hp, hy, ry⟩ := sn7.under.vals o (List.mem_of_getElem? ho)
        have lys := ry.length
        rw [List.length_map] at lys
        refine ⟨rfl, _, rfl, _, rfl, U, xa, us, o, .ref p, rfl, rfl, .inl sn7.under.at_, sn7.under.kk, rx, hp, p, _, rfl, .inl hy, rfl, _, rfl, ?_⟩
        rw [lys]
        show if decide (V.int (((piecesL n rows o).length : Nat) : Int) = V.int 1) = true then _ else _
        have ed : decide (V.int (((piecesL n rows o).length : Nat) : Int) = V.int 1) = decide ((piecesL n rows o).length = 1) := by
          rw [decide_eq_decide]
          constructor
          · intro e; injection e with e; omega
          · intro e; rw [e]; rfl
        rw [ed]
        cases cc : decide ((piecesL n rows o).length = 1) with
        | false => exact iteF (k2 cc _ (Same.refl _))
        | true => exact iteT ⟨_, rfl, k1 cc _ _ (Same.refl _) rx⟩
      · rw [lxs, filter_map_range (fun o : Rope => decide ((piecesL n rows o).length = 1)) dRope (0, 0, []) (ropesL n rows)] at rz7
        have lz := rz7.length
        rw [List.length_map] at lz
        have lfl := List.length_filter_le (fun o : Rope => decide ((piecesL n rows o).length = 1)) (ropesL n rows)
        dsimp only [tNil]
        refine tupL_use (SqL.of hz7) fun q4 H8 sq4 hq4 => ?_
        have r4 : Rp K H8 (.ref q4) (dRopes ((ropesL n rows).filter fun o => decide ((piecesL n rows o).length = 1))) := .tup hq4 (by omega) (rz7.same sq4)
        have m8 := m6.then (s7.trans sq4)
        refine ask m8 r4 List.filter_sublist fun z2 H9 s9 rz9 => ?_
        rw [above_short hB] at rz9
        refine ⟨.ref q3, z2, _, _, rfl, ((r3.same s7).same sq4).same s9, rz9, noL_ropes _, deep_ropes _, fun b H10 s10 hb => ?_⟩
        rw [hb.mpr rfl]
        exact k _ (m8.then (s9.trans s10))
end
end LK
/-! several clauses 'except X as n', and behind them clauses that no error ever reaches -/
namespace LK
open PySem PySem.Spec PyProof.Rows L2
/-- each clause has a reading -/
inductive RowN (X : Cx) (n : Str) : List ExceptHandler → List Clause → Prop
  | last (hs : List ExceptHandler) : RowN X n hs []
  | more {x : Str} {q : Clause} {b₀ : Stmt} {bs : List Stmt} {p1 p2 : Pos} {hs : List ExceptHandler} {r : List Clause} (names : Names X x q.1) (suite : ∀ a oe cls d pn, Zc cls d oe → (∃ vs, oe.data = .fields vs) → PSs (X.suite a ((a, oe) :: pn)) (b₀ :: bs) (q.2 a cls d)) (rest : RowN X n hs r) :
      RowN X n (.ExceptHandler (some (.Name x p1)) (some n) (b₀ :: bs) p2 :: hs) (q :: r)
section
variable {X : Cx} {n : Str} {i : Nat} {D : Ends} {pins : List (Addr × Obj)} {σ : L2.St} {H : Hp} {sI s : Shared} {a : Addr} {cls : Value} {d : Option Addr} {B h : Heap}
/-- the clauses, one after the other, at an error that has come up -/
theorem RowN.walk (nodup : X.N.Nodup) (at_ : X.N[i]? = some n) (loc : X.env.kindOf n = some .local) (stk : X.stack = X.env :: X.outer) (frame : X.env.frame = some X.env.locals) (ok : X.Ok) (out : Takes X (fun _ _ _ _ => False))
    (J : Inv X pins σ H sI) (ag : PyProof.Rows.AllBare s.gens) (os : s.os = sI.os) (nb : ∀ b o, sI.heap.get? b = some o → b ∉ frs X.stack → B.get? b = some o) (up : sI.heap.UpToSlots h) (fly : HandSPX.FlyingZ B (X.env :: X.outer) a (Zc cls d) h)
    (free : H a = none) (nL : a ≠ X.env.locals) (nF : a ∉ X.fs) {hs : List ExceptHandler} {r : List Clause} (R : RowN X n hs r) : wRow X.K i (fun _ _ _ _ => False) D r cls d σ H → wpAny (model X.prog X.w) X.A (handleBy (.ref a) X.env hs) (SP X pins D) X.xe { s with heap := h } := by
  have J3 : Inv X pins σ H { s with heap := h } := J.landed nb fly.1 up os ag
  obtain ⟨o3, v3, he3, hz3, hd3⟩ := fly.there
  have S3 := J3.suite he3 hd3 free nL nF
  induction R with
  | last hs =>
    intro w
    exact w.elim
  | @more x q b₀ bs p1 p2 hs r names suite rest ih =>
    rintro ⟨b, hb, yes, no⟩
    refine wpAny_handleBy_cons (codeAny_handlers_test ?_) (fun z => by cases z)
    have meets := PySem.W.exm_one (M := model X.prog X.w) J3.kIn (fun A Q E s k q => wpAny_typeOf_ref (k _ _ he3) (by rw [hz3.1]; exact q)) hb
    have name : ∀ {Q E : Value → Shared → Prop}, Q q.1 { s with heap := h } → wpAny (model X.prog X.w) (X.A.mark (some (.ref a))) (eval (.Name x p1) X.env) Q E { s with heap := h } := fun {Q E} k => by
      rcases names with ⟨g, nd, m | ⟨m, bt, nn⟩⟩
      · exact ld_glob (X := X.suite a ((a, o3) :: (X.pn ++ pins))) S3 g m k nd
      · exact ld_blt (X := X.suite a ((a, o3) :: (X.pn ++ pins))) S3 g m bt k nn nd
    refine name (meets.here ?_)
    cases b with
    | false => exact ih (no rfl)
    | true =>
      refine codeAny_handlers_suite_as (HandSPX.lands_againZ fly fun h4 fly4 up4 => ?_)
      obtain ⟨o4, v4, he4, hz4, hd4⟩ := fly4.there
      have S4 := (J.landed (s' := { s with heap := h4 }) nb fly4.1 (up.trans up4) os ag).suite he4 hd4 free nL nF
      refine store_ok (X := X.suite a ((a, o4) :: (X.pn ++ pins))) (v := .ref a) S4 nodup at_ (.inl loc) rfl (fun s5 S5 => ?_) (.inr loc)
      have gone : ∀ {s6 : Shared} {σ6 : L2.St} {H6 : Hp} {Q : Shared → Prop}, Inv (X.suite a ((a, o4) :: (X.pn ++ pins))) [] σ6 H6 s6 → (∀ s7, Inv X pins (σ6.set i none) H6 s7 → Q s7) → wpAny (model X.prog X.w) X.A (bindName X.env n .none >>= fun _ => unbindBehindTheSuite X.env n p2) (fun _ s7 => Q s7) X.xe s6 :=
        fun S6 k => gone_ok (S6.unsuite ok) nodup at_ loc k
      refine wpAny_mono ((suite a o4 cls d (X.pn ++ pins) hz4 ⟨v4, hd4⟩).run [] s5 _ H _ S5 (yes rfl a free)) (fun f s6 w6 => ?_) (fun _ _ z => z.elim)
      match f, w6 with
      | .next, ⟨σ6, H6, S6, q6⟩ => exact gone S6 fun s7 J7 => ⟨σ6.set i none, H6, J7, q6⟩
      | .brk, ⟨σ6, H6, S6, q6⟩ => exact gone S6 fun s7 J7 => ⟨σ6.set i none, H6, J7, q6⟩
      | .cont, ⟨σ6, H6, S6, q6⟩ => exact gone S6 fun s7 J7 => ⟨σ6.set i none, H6, J7, q6⟩
      | .ret u, ⟨v6, σ6, H6, S6, r6, q6⟩ => exact gone S6 fun s7 J7 => ⟨v6, σ6.set i none, H6, J7, r6, q6⟩
end
theorem ps_try_rowN {X : Cx} {n : Str} {i : Nat} {body : List Stmt} {h₀ : ExceptHandler} {hds : List ExceptHandler} {r : List Clause} {pos : Pos} {tb : WX → TS} (stk : X.stack = X.env :: X.outer) (frame : X.env.frame = some X.env.locals) (nodup : X.N.Nodup) (at_ : X.N[i]? = some n) (loc : X.env.kindOf n = some .local) (out : Takes X (fun _ _ _ _ => False))
    (read : ∀ (W : WX) (pn : List (Addr × Obj)) (xe : Value → Shared → Prop), Takes (X.tr pn xe) W → PassesOwn (model X.prog X.w) X.A X.env xe → PSs (X.tr pn xe) body (tb W)) (R : RowN X n (h₀ :: hds) r) :
    PS X (.Try body (h₀ :: hds) [] [] pos) (fun D σ H => tb (wRow X.K i (fun _ _ _ _ => False) D r) D σ H) := by
  refine ⟨fun pins s σ H D I h => wpAny_Try_except ?_⟩
  have ok := I.ok
  have frames : X.A.frames = some (X.env :: X.outer) := by rw [ok.frames, stk]
  refine wpAny_mono ((read (wRow X.K i (fun _ _ _ _ => False) D r) (X.pn ++ pins) (fun e s₁ => wpAny (model X.prog X.w) X.A (noteFrame e X.env) (fun _ s₂ => wpAny (model X.prog X.w) X.A (setFlight e none) (fun _ s₃ => wpAny (model X.prog X.w) X.A (handleBy e X.env (h₀ :: hds)) (SP X pins D) X.xe s₃) X.xe s₂) X.xe s₁) (fun u s' came => ?_) PassesOwn.looking).run [] s σ H D (I.toTry _) h) (fun f s1 w1 => ?_) (fun _ _ z => z)
  · obtain ⟨a, B, sI, pins', σ', H', cls, d, rfl, J', nb, up, sky, free, os, ag, w⟩ := came
    refine Sky.land Zc.steady frames frame (stk ▸ sky) fun h3 fly up3 => ?_
    obtain ⟨o3, v3, he3, -, hd3⟩ := fly.there
    have away : a ∉ frs (X.env :: X.outer) := fun m => by
      obtain ⟨_, o', e', nf⟩ := fly.2.2.1.mem m
      rw [he3] at e'
      cases e'
      exact nf _ hd3
    refine R.walk nodup at_ loc stk frame ok out (J'.ofTry ok) ag os nb (up.trans up3) fly free (fun z => away (List.mem_filterMap.mpr ⟨X.env, by simp, by rw [frame, z]⟩)) (fun m => ?_) w
    obtain ⟨e, he, q⟩ := List.mem_filterMap.mp m
    exact away (List.mem_filterMap.mpr ⟨e, by simp [he], q⟩)
  · match f, w1 with
    | .next, ⟨σ', H', J', q⟩ => exact wpAny_execs_nil ⟨σ', H', J'.ofTry ok, q⟩
    | .brk, ⟨σ', H', J', q⟩ => exact ⟨σ', H', J'.ofTry ok, q⟩
    | .cont, ⟨σ', H', J', q⟩ => exact ⟨σ', H', J'.ofTry ok, q⟩
    | .ret u, ⟨v, σ', H', J', r, q⟩ => exact ⟨v, σ', H', J'.ofTry ok, r, q⟩
end LK
/-! a clause of two rows -/
namespace LK
open PySem PySem.Spec PyProof.Rows L2
theorem RowN.two {X : Cx} {n : Str} {x : Str} {c : Value} {b₀ b₁ : Stmt} {bs : List Stmt} {p1 p2 : Pos} {hs : List ExceptHandler} {r : List Clause} {t u : Addr → Value → Option Addr → TS} (names : Names X x c)
    (s1 : ∀ a oe cls d pn, Zc cls d oe → (∃ vs, oe.data = .fields vs) → PS (X.suite a ((a, oe) :: pn)) b₀ (t a cls d)) (s2 : ∀ a oe cls d pn, Zc cls d oe → (∃ vs, oe.data = .fields vs) → PSs (X.suite a ((a, oe) :: pn)) (b₁ :: bs) (u a cls d)) (rest : RowN X n hs r) :
    RowN X n (.ExceptHandler (some (.Name x p1)) (some n) (b₀ :: b₁ :: bs) p2 :: hs) ((c, fun a cls d => tSeq (t a cls d) (u a cls d)) :: r) :=
  .more (q := (c, fun a cls d => tSeq (t a cls d) (u a cls d))) names (fun a oe cls d pn hz hf => show PSs _ _ (tSeq (t a cls d) (u a cls d)) from pss_cons (s1 a oe cls d pn hz hf) (s2 a oe cls d pn hz hf)) rest
end LK
/-! a def that is called while an error is looked at, and raises nothing -/
namespace LK
open PySem PySem.Spec PyProof.Rows L2
structure FnW (P : Program) (w : World) (K : PySem.W.Frag) (mg : Str → Option Value) (base : Heap) (k : Nat) (f : Addr) (fd : FuncData) (ps : List Str) (sp : Sp) : Prop where
  len : ∀ vs H Q E, sp vs H Q E → vs.length = ps.length
  run : ∀ (A : Around) (outer : List Env) (s : Shared) (H : Hp) (args : Args) (us : List Value) (vs : List V) (Q : VK) (E : XK) (p : Addr × Obj), L2H.RoomH k A → L2H.PinOk outer H s p → Env0 P w K mg base A outer s H → BindsTo s fd args (ps.zip us) → Vals vs us → sp vs H Q E →
    codeAny (model P w) A (Code.call (Value.ref f) args) (CR CX0 outer P w H s Q E) s
theorem fun_okW {P : Program} {w : World} {K : PySem.W.Frag} {mg : Str → Option Value} {base : Heap} {x qual : Str} {st : Stmt} {f : Addr} {fd : FuncData} {N ps : List Str} {k : Nat} {sp : Sp} (F : Fun K x qual st f fd) (S : FnScope N ps (defScope st)) (len : ∀ vs H Q E, sp vs H Q E → vs.length = ps.length)
    (hbody : ∀ (cdv : Value) (A : Around) (outer : List Env) (s : Shared) (H : Hp) (vs : List V) (Q : VK) (E : XK) (p : Addr × Obj), L2H.RoomH k (A.deeper (envOfC qual (defScope st) s.heap.objs.size f cdv)) → sp vs H Q E →
      ∃ t, PSs (L2H.cxH CX0 P w K mg base N qual (defScope st) f cdv A outer s H E p) (defBody st) t ∧ t { nx := fun _ H' => Q .non H', rt := Q } (L2.start N vs) H) : FnW P w K mg base (k + 1) f fd ps sp := by
  obtain ⟨oc, od, kV, doc, pm, an, cdv, ct, osl, rfl, lk, hcd⟩ := F.ex
  refine ⟨len, fun A outer s H args us vs Q E p hr hpin e0 hb r hsp => ?_⟩
  have hl := len vs H Q E hsp
  have KX := W.Frag.In.keeps e0.mod.kin fun b o e => (e0.bs b o e).left
  have lim := Heap.NoLimit.keeps e0.mod.nolimit fun b o e => (e0.bs b o e).left
  refine codeAny_call_function hr.depth (KX f _ lk) rfl S.co S.gen rfl (W.codeRec_of KX hcd) (hb (model P w) A.in1 _ _ (wpAny_newFunctionEnv_cells S.kind (fun y hy => ?_) fun env he s1 ic => ?_))
  · rcases S.par y.1 (List.of_mem_zip hy).1 with q | q
    · exact .inl q
    · exact .inr ⟨q, W.cellsFrom_some _ _ [] (.inl q)⟩
  · subst he
    refine ⟨Heap.NoLimit.keeps lim ic.toInCall.keep, codeAny_func ?_⟩
    obtain ⟨t, ht, hq⟩ := hbody cdv A outer s H vs Q E p (hr.deeper _) hsp
    refine wpAny_mono (ht.run [] s1 (L2.start N vs) H { nx := fun _ H' => Q .non H', rt := Q } (L2H.inv_startH S hpin e0 hl r ic) hq) (fun fl s' hs => ?_) (fun e s' hs => hs)
    match fl, hs with
    | .next, ⟨σ', H', J, q⟩ => exact ⟨.non, H', J.os, J.bare, J.base, J.hok, rfl, q⟩
    | .brk, ⟨_, _, _, q⟩ => exact q.elim
    | .cont, ⟨_, _, _, q⟩ => exact q.elim
    | .ret u, ⟨v, σ', H', J, rv, q⟩ => exact ⟨v, H', J.os, J.bare, J.base, J.hok, rv, q⟩
theorem run_fnW {X : Cx} {k : Nat} {f : Addr} {fd : FuncData} {ps : List Str} {sp : Sp} {pins : List (Addr × Obj)} {σ : L2.St} {H : Hp} {s : Shared} {Q : VK} {us : List Value} {vs : List V} (F : FnW X.prog X.w X.K X.mg X.base k f fd ps sp) (hr : L2H.RoomH k X.A) (hc : ∃ p, p ∈ X.pn) (hb : Binds X.K fd ps [])
    (I : Inv X pins σ H s) (r : Vals vs us) (h : sp vs H Q E0) : wpAny (model X.prog X.w) X.A (call (.ref f) us) (EP X pins σ Q) X.xe s := by
  obtain ⟨p, hp⟩ := hc
  have hl : us.length = ps.length := by rw [← Vals.length r]; exact F.len vs H Q _ h
  have b := hb s us (Inv.kIn I) (by rw [List.append_nil]; exact hl)
  rw [List.append_nil] at b
  have P1 := I.pin p (List.mem_append_left pins hp)
  refine wpAny_call (codeAny_mono (F.run X.A X.stack s H { pos := us } us vs Q E0 p hr ⟨P1.1, P1.2.1, fun hm => ?_, P1.2.2.2.2⟩ (Inv.env0 I) b r h) fun r' s' hq => ?_)
  · rcases List.mem_cons.mp (Inv.stkSub I p.1 hm) with z | z
    · exact P1.2.2.1 z
    · exact P1.2.2.2.1 z
  · cases r' with
    | error e => exact hq.elim
    | ok fl =>
      cases fl with
      | ret u => exact Inv.after I hq
      | next => exact hq.elim
      | brk => exact hq.elim
      | cont => exact hq.elim
def tCallW (sp : Sp) (t : TA) : TE := fun σ H Q => t σ H fun vs H1 => sp vs H1 Q E0
theorem pe_callW {X : Cx} {k : Nat} {f : Addr} {fd : FuncData} {ps : List Str} {sp : Sp} {x : Str} {q pos : Pos} {e : Expr} {es : List Expr} {t : TA} (F : FnW X.prog X.w X.K X.mg X.base k f fd ps sp) (hr : L2H.RoomH k X.A) (hc : ∃ p, p ∈ X.pn) (hg : Gl X x) (hm : X.mg x = some (.ref f)) (hk : PySem.W.keepIn X.K (.ref f) = true) (hb : Binds X.K fd ps []) (ha : PA X (e :: es) t)
    (hdb : (x == Str.ofString "__debug__") = false := by first | rfl | decide) (he : starEach (e :: es) X.env = (false, eval e X.env) :: starEach es X.env := by rfl) (hpl : ((backTo pos (starEach es X.env)).any fun x => x.1) = false := by rfl) : PE X (.Call (.Name x q) (e :: es) [] pos) (tCallW sp t) := ⟨fun pins s σ H Q I h =>
  wpAny_Call_Name_kw (ld_glob I hg hm (W.callWith_K I.ok.mod.kin hk (thn (ha.run pos pins s σ H _ I h) fun us s1 ⟨vs, H1, I1, r, q⟩ => ⟨Inv.kIn I1, run_fnW F hr hc hb I1 r q⟩) he hpl) hdb)⟩
theorem roomW {k : Nat} {A : Around} {h : Option Value} (r : Room (k + 1) A) : L2H.RoomH 1 (A.mark h) := by
  have h1 := (L2H.roomH_of r).mono (j := 1) (by omega)
  exact ⟨h1.dp, h1.un⟩
/-- what is never reached -/
theorem pss_no {X : Cx} {st : List Stmt} : PSs X st fun _ _ _ => False := ⟨fun _ _ _ _ _ _ h => h.elim⟩
end LK
namespace LK
open PySem PySem.Spec PyProof.Rows L2
theorem pe_notK (K : PySem.W.Frag) {X : Cx} {a : Expr} {ta : TE} {pos : Pos} (ha : PE X a ta) (hK : X.K = K := by rfl) : PE X (.UnaryOp .Not a pos) (tNotT K ta) := hK ▸ pe_notT ha
end LK
/-! isinstance of a caught error of an own class that has fields of its own -/
namespace LK
open PySem PySem.Spec PySem.Calls PyProof.Rows PySem.W
section
variable {prog : Program} {w : World} {A : Around} {E : Value → Shared → Prop} {s : Shared} {K : Frag} {x D : Addr} {ox : Obj} {od : Option Obj}
theorem findObj_dataO {C : Addr} {name : Str} {a g : Value} (hc : (clsIn K C).isSome = true) (ha : findIn K (.ref C) name = some (some a)) (hg : specialIn K a "__get__" = some (some g)) (ht : takesIn K a = some true) : findObj K C od name = some (.bind g a) := by
  obtain ⟨cd, hc⟩ := Option.isSome_iff_exists.mp hc
  unfold findObj
  rw [hc, Option.bind_some, ha, Option.bind_some]
  simp [hg, ht]
theorem kin_classO {Q : Option Value → Shared → Prop} (hga : findIn K (.ref D) "__getattribute__" = some (some (.builtin "BaseException.__getattribute__"))) (hgt : findIn K (.ref D) "__getattr__" = some none) (hsub : subIn K (.ref D) (.type "BaseException") = some true)
    (hdct : hasDictIn K D = true) (ha : findIn K (.ref D) "__class__" = some (some (.builtin "object.__class__")))
    (hn : specialIn K (.builtin "object.__class__") "__get__" = some (some (.builtin "getset_descriptor.__get__"))) (htk : takesIn K (.builtin "object.__class__") = some true) (hm : mroIn K D (.type "object") = some true)
    (X : K.In s.heap) (I : InstAt s.heap x ox D od) (h : Q (some (.ref D)) { s with toks := s.toks + 1 }) : wpAny (model prog w) A (getAttr? (.ref x) "__class__") Q E s := by
  have hf : findObj K D od "__class__" = some (.bind (.builtin "getset_descriptor.__get__") (.builtin "object.__class__")) := findObj_dataO (by obtain ⟨cd, hc, _⟩ := any_some hdct; rw [hc]; rfl) ha hn htk
  obtain ⟨hp, g, d, t, os⟩ := s
  have L0 := I.type (M := model prog w)
  have L1 := looks_findIn (M := model prog w) X hga
  have L2 := looks_findIn (M := model prog w) X hgt
  have L3 := looks_find (M := model prog w) X I hf
  have sub : Looks (model prog w) hp (isInstance (.ref x) (.type "BaseException")) true := L0.andThen (looks_subIn X hsub)
  have hx0 : (false && onTheHeap (Value.builtin "BaseException.__getattribute__")) = false := rfl
  have hx2 : (Value.builtin "BaseException.__getattribute__" == Value.builtin "object.__getattribute__") = false := by decide +kernel
  have hx1 : (onTheHeap (Value.ref D) && Value.builtin "BaseException.__getattribute__" == Value.builtin "object.__getattribute__") = false := by rw [hx2]; rfl
  unfold getAttr? getAttrBy? getAttrBy
  refine wpAny_bind (wpAny_mkText (wpAny_bind (wpAny_attempt (wpAny_holding (wpAny_bind (L0.at (wpAny_bind (L1.at ?_))))))))
  show wpAny _ _ (if (onTheHeap (Value.ref D) && Value.builtin "BaseException.__getattribute__" == Value.builtin "object.__getattribute__") = true then _ else _) _ _ _
  rw [hx1, if_neg Bool.false_ne_true]
  unfold getAttrByItsOwn hookBefore
  refine wpAny_bind ?_
  rw [if_pos (show onTheHeap (Value.ref D) = true from rfl)]
  refine L2.at ?_
  refine wpAny_bind (wpAny_attempt (wpAny_holding ?_))
  unfold callGetattribute
  rw [hx0, if_neg Bool.false_ne_true]
  unfold boundAndCalled
  rw [PySem.F.excAttr_ValueError.ga.bind (.ref x)]
  refine wpAny_bind (wpAny_pure ?_)
  show wpAny _ _ (call (.builtin "BaseException.__getattribute__") [.ref x, .str "__class__" t]) _ _ _
  refine wpAny_call (codeAny_call_builtin PySem.F.excAttr_ValueError.ga.plain PySem.F.entry_bexc_ga ?_)
  refine @check_slot (model prog w) _ _ ⟨hp, g, d, t + 1, os⟩ "BaseException.__getattribute__" "BaseException" "__getattribute__" (.ref x) [.str "__class__" t] [] _ (by decide +kernel) (by decide +kernel) sub (PySem.F.args_bexc_ga (.ref x) (.str "__class__" t)) ?_
  unfold Builtin.«object.__getattribute__»
  refine wpAny_bind (wpAny_of_eq (a := ((Value.ref x : Value), [Value.str "__class__" t])) (by first | rfl | (simp only [slotArgs]; rfl)) ?_)
  refine wpAny_bind (wpAny_pure (wpAny_bind (L0.at (wpAny_bind (L3.at ?_)))))
  show wpAny _ _ (holding [Value.builtin "object.__class__"] (call (.builtin "getset_descriptor.__get__") [.builtin "object.__class__", .ref x, .ref D]) >>= ret) _ _ _
  refine wpAny_bind (wpAny_holding (wpAny_call (class_get (s := ⟨hp, g, d, t + 1, os⟩) (ox := ox) (od := od) X I hm ?_)))
  refine wpAny_pure ?_
  show wpAny _ _ (handedOut (.ref D)) _ _ _
  rw [handedOut_of (v := .ref D) rfl]
  first
    | exact wpAny_pure (wpAny_pure h)
    | exact wpAny_pure h
    | exact wpAny_pure (wpAny_bind (wpAny_pure (wpAny_pure h)))
theorem kitx_excO (hga : findIn K (.ref D) "__getattribute__" = some (some (.builtin "BaseException.__getattribute__"))) (hgt : findIn K (.ref D) "__getattr__" = some none) (hsub : subIn K (.ref D) (.type "BaseException") = some true) (hdct : hasDictIn K D = true) (ha : findIn K (.ref D) "__class__" = some (some (.builtin "object.__class__")))
    (hn : specialIn K (.builtin "object.__class__") "__get__" = some (some (.builtin "getset_descriptor.__get__"))) (htk : takesIn K (.builtin "object.__class__") = some true) (hm : mroIn K D (.type "object") = some true) :
    KitX K (.ref x) (.ref D) (fun h => InstAt h x ox D od) where
  ty := fun _ _ _ I => I.type
  it := fun _ _ X _ => by
    obtain ⟨cdD, hcD, _⟩ := any_some hdct
    unfold clsIn at hcD
    split at hcD
    · rename_i c' d' cd' sl' ho
      intro A' Q' E' s' k q
      unfold isType loadHead
      exact wpAny_bind (wpAny_loadPart (k _ _ (X _ _ ho)) (wpAny_pure q))
    · cases hcD
  ne := (handS_kitx_exc (K := K) (x := x) (D := D) (ox := ox) hga hgt hsub hdct ha hn htk hm).ne
  ca := fun X I k => kin_classO hga hgt hsub hdct ha hn htk hm X I k
end
end LK
namespace LK
open PySem PySem.Spec PyProof.Rows L2
/-- isinstance(e, c), e the exception that the suite holds, with fields -/
def rIsO (K : PySem.W.Frag) (D a : Addr) (cls : Value) (d : Option Addr) : List V → Hp → VK → Prop := fun xs H Q => ∃ (c : V) (cv : Value) (b : Bool) (dx : Addr) (fs : List (Str × V)), cls = .ref D ∧ d = some dx ∧ H dx = some (.xd fs) ∧ xs = [.ref a, c] ∧ (∀ u, RelV c u → u = cv) ∧ PySem.W.kitOne K (.ref D) cv = some b ∧ Q (.bl b) H
theorem isO {X : Cx} (K : PySem.W.Frag) {a D : Addr} {oe : Obj} {cls : Value} {d : Option Addr} {pn : List (Addr × Obj)} (C : ExcC K D) (hz : Zc cls d oe) (hf : ∃ vs, oe.data = .fields vs) (hK : X.K = K := by rfl) : CallR (X.suite a ((a, oe) :: pn)) (.builtin "isinstance") (rIsO K D a cls d) := by
  subst hK
  intro pins s σ H xs us Q I r h
  obtain ⟨c, cv, b, dx, fs, rfl, rfl, hx, rfl, hcv, e, q⟩ := h
  cases r with
  | cons rx rr =>
    cases rr with
    | cons rt rr =>
      cases rr
      cases rx
      have ec := hcv _ rt
      subst ec
      obtain ⟨hget, _⟩ := I.pin (a, oe) (List.mem_append.mpr (.inl List.mem_cons_self))
      obtain ⟨vs, hv⟩ := hf
      obtain ⟨mA, ⟨od, es, ep, hod, hc⟩, _⟩ := I.hok dx _ hx
      have J : PySem.W.InstAt s.heap a oe D (some od) := by
        obtain ⟨oc, od', oda, osl⟩ := oe
        obtain ⟨h1, h2⟩ := hz
        dsimp only at h1 h2 hv
        subst h1 h2 hv
        exact ⟨hget, rfl, rfl, hod⟩
      exact PySem.W.kia_one (kitx_excO C.hg C.hk C.hs C.hd C.ha C.hn C.ht C.hm) I.kIn J e (fun z => nomatch z) fun tk => ⟨.bl b, H, I.kept (t' := tk) fun _ _ z => z, rfl, q⟩
end LK
namespace LK
open PySem PySem.Spec PyProof.Rows L2
/-- what is asked, and what is heard -/
inductive Ref (n : Int) (rows : List (List Int)) : Int → PyData → PyData → V → Prop
  | r0 {d e : PyData} : isRope n rows d = false → Ref n rows 0 d e (.str "rope")
  | o0 {d e : PyData} : isRope n rows d = true → isRope n rows e = false → Ref n rows 0 d e (.str "other")
  | n0 {r o : Rope} : isRope n rows (dRope r) = true → isRope n rows (dRope o) = true → Ref n rows 0 (dRope r) (dRope o) .non
  | r1 {d e : PyData} : isRope n rows d = false → Ref n rows 1 d e (.str "rope")
  | t1 {r : Rope} {e : PyData} : isRope n rows (dRope r) = true → tieIn n rows r e = false → Ref n rows 1 (dRope r) e (.str "tie")
  | n1 {r : Rope} {x y : Int} : isRope n rows (dRope r) = true → tieIn n rows r (dTup [x, y]) = true → Ref n rows 1 (dRope r) (dTup [x, y]) .non
  | r2 {d e : PyData} : isRope n rows d = false → Ref n rows 2 d e (.str "rope")
  | r3 {d e : PyData} : isRopes n rows d = false → Ref n rows 3 d e (.str "ropes")
def spSameI : Sp := fun vs H Q _ => ∃ i j : Int, vs = [.int i, .int j] ∧ Q (.bl (decide (i = j))) H
def spRefused (K : PySem.W.Frag) : Sp := fun vs H Q _ => ∃ (i : Int) (v u t : V) (d e : PyData) (n : Int) (rows : List (List Int)) (A : V), vs = [.int i, v, u, t] ∧ Rp K H v (bookD n rows) ∧ Rp K H u d ∧ Rp K H t e ∧ BookR n rows ∧ Ref n rows i d e A ∧ ∀ H', Same H H' → Q A H'
section
variable {P : Program} {w : World} {K : PySem.W.Frag} {mg : Str → Option Value} {base : Heap} {ad : Nat → Addr} {fd : Nat → FuncData}
theorem ok__law_sameW (T : Txt K mg ad fd) : FnW P w K mg base 1 (ad 47) (fd 47) ["_law_due", "_law_told"] spSameI := by
  refine fun_okW T.F__law_same sc__law_same (fun vs H Q E h => ?_) (fun cdv A outer s H vs Q E p hr h => ?_)
  · obtain ⟨i, j, rfl, _⟩ := h
    rfl
  · obtain ⟨i, j, rfl, k⟩ := h
    refine ⟨_, pss_cons (ps_if (pt_val (pe_callB (isiR K) (by rfl) T.g_isinstance (by decide +kernel) (pa_cons (pv 0) (pa_cons (pe_bltn (v := .ty "tuple") (by rfl) T.g_tuple (by decide +kernel) rfl) pa_nil)))) pss_no pss_nil)
      (pss_cons (ps_if (PW.pt (pw_or (pt_val (pe_callB (isiR K) (by rfl) T.g_isinstance (by decide +kernel) (pa_cons (pv 0) (pa_cons (pe_bltn (v := .ty "bool") (by rfl) T.g_bool (by decide +kernel) rfl) pa_nil)))) (pw_or1 (pt_val (pe_callB (isiR K) (by rfl) T.g_isinstance (by decide +kernel) (pa_cons (pv 1) (pa_cons (pe_bltn (v := .ty "bool") (by rfl) T.g_bool (by decide +kernel) rfl) pa_nil))))))) pss_no pss_nil)
      (pss_cons (ps_if (pt_val (pe_callB (isiR K) (by rfl) T.g_isinstance (by decide +kernel) (pa_cons (pv 0) (pa_cons (pe_bltn (v := .ty "int") (by rfl) T.g_int (by decide +kernel) rfl) pa_nil)))) (pss_one (ps_ret (pe_and (pe_callB (isiR K) (by rfl) T.g_isinstance (by decide +kernel) (pa_cons (pv 1) (pa_cons (pe_bltn (v := .ty "int") (by rfl) T.g_int (by decide +kernel) rfl) pa_nil))) (pe_one (pe_cmpR op_eq (pv 0) (pv 1) (nomark _)))))) pss_nil) pss_no)), ?_⟩
    refine ⟨_, rfl, .int i, .ty "tuple", _, _, _, rfl, .ty _, TyX.base (.int i), isi_tuple (K := K) (H := H) (.int i), _, rfl, ?_⟩
    refine iteF ⟨_, rfl, .int i, .ty "bool", _, _, _, rfl, .ty _, TyX.base (.int i), isi_bool (K := K) (H := H) (.int i), _, rfl, ?_⟩
    refine iteF ⟨_, rfl, .int j, .ty "bool", _, _, _, rfl, .ty _, TyX.base (.int j), isi_bool (K := K) (H := H) (.int j), _, rfl, ?_⟩
    refine iteF ⟨_, rfl, .int i, .ty "int", _, _, _, rfl, .ty _, TyX.base (.int i), isi_int (K := K) (H := H) (.int i), _, rfl, ?_⟩
    refine iteT ⟨_, rfl, .int j, .ty "int", _, _, _, rfl, .ty _, TyX.base (.int j), isi_int (K := K) (H := H) (.int j), _, rfl, ?_⟩
    refine iteT ⟨_, rfl, _, rfl, rfl, ?_⟩
    have e : decide (V.int i = V.int j) = decide (i = j) := by
      rw [decide_eq_decide]
      exact ⟨fun z => by injection z, fun z => by rw [z]⟩
    show Q (.bl (decide (V.int i = V.int j))) H
    rw [e]
    exact k
theorem ok__law_refused (T : Txt K mg ad fd) : FnOk P w K mg base CX0 10 (ad 54) (fd 54) ["_law_k", "_law_book", "_law_one", "_law_two"] (spRefused K) := by
  refine T.F__law_refused.ok sc__law_refused (fun vs H Q E h => ?_) (fun cdv A outer s H vs Q E hr h => ?_)
  · obtain ⟨i, v, u, t, d, e, n, rows, B, rfl, _⟩ := h
    rfl
  · obtain ⟨i, v, u, t, d, e, n, rows, B, rfl, hv, hu, ht, bkr, ask, k⟩ := h
    refine ⟨_, (pss_cons (ps_try_rowN (i := 4) rfl rfl sc__law_refused.nd rfl rfl takes0
  (fun W pn xe tk _ => (pss_cons (ps_if (pt_cmpR op_eq (pv 0) pe_int (nomark _)) (pss_one (ps_expr (pe_callS (ok_is_piece T) (hr.mono (by decide)) rfl T.m_is_piece T.F_is_piece.kp (b_is_piece T) (fun σ => passAt tk σ) (pa_cons (pv 1) (pa_cons (pv 2) (pa_cons (pv 3) pa_nil))))))
  pss_nil)
  (pss_cons (ps_if (pt_cmpR op_eq (pv 0) pe_int (nomark _)) (pss_one (ps_expr (pe_callS (ok_cut_rope T) (hr.mono (by decide)) rfl T.m_cut_rope T.F_cut_rope.kp (b_cut_rope T) (fun σ => passAt tk σ) (pa_cons (pv 1) (pa_cons (pv 2) (pa_cons (pv 3) pa_nil))))))
  pss_nil)
  (pss_cons (ps_if (pt_cmpR op_eq (pv 0) pe_int (nomark _)) (pss_one (ps_expr (pe_callS (ok_pieces_of T) (hr.mono (by decide)) rfl T.m_pieces_of T.F_pieces_of.kp (b_pieces_of T) (fun σ => passAt tk σ) (pa_cons (pv 1) (pa_cons (pv 2) pa_nil)))))
  pss_nil)
  (pss_one (ps_if (pt_cmpR op_eq (pv 0) pe_int (nomark _)) (pss_one (ps_expr (pe_callS (ok_above_of T) (hr.mono (by decide)) rfl T.m_above_of T.F_above_of.kp (b_above_of T) (fun σ => passAt tk σ) (pa_cons (pv 1) (pa_cons (pv 2) pa_nil)))))
  pss_nil))))))
  (.two (c := .ref (ad 13)) ⟨rfl, by decide, Or.inl T.m_NotUsable⟩ (fun a oe cls d pn hz hf => (ps_if (PW.pt (pw_and (pt_val (pe_callB (isO K T.xc_NotUsable hz hf) (by rfl) T.g_isinstance (by decide +kernel) (pa_cons (pv 4) (pa_cons (pe_glob (v := .ref (ad 12)) (by rfl) T.m_BookError rfl) pa_nil)))) (pw_and (pt_val (pe_callW (ok__law_sameW (P := P) (w := w) T) (roomW hr) ⟨_, List.mem_cons_self⟩ (by rfl) T.m__law_same T.F__law_same.kp (b__law_same T) (pa_cons (pe_un un_neg pe_int) (pa_cons (pe_xf T.x_NotUsable T.n_NotUsable_at hz hf (pv 4)) pa_nil)))) (pw_and1 (pt_val (pe_callB (isiR K) (by rfl) T.g_isinstance (by decide +kernel) (pa_cons (pe_xf T.x_NotUsable T.n_NotUsable_word hz hf (pv 4)) (pa_cons (pe_bltn (v := .ty "str") (by rfl) T.g_str (by decide +kernel) rfl) pa_nil)))))))) (pss_one (ps_ret (pe_xf T.x_NotUsable T.n_NotUsable_word hz hf (pv 4))))
  pss_nil))
  (fun a oe cls d pn hz hf => (pss_one (ps_ret pe_bl)))
  (.last _)))
  (pss_one (ps_ret pe_non))), ?_⟩
    have bk : BookIn n rows := ⟨bkr.inn, bkr.n0, by have := bkr.n10; omega⟩
    cases ask with
    | r0 h =>
      refine ⟨_, rfl, rfl, _, rfl, iteT ⟨_, rfl, _, rfl, _, rfl, v, u, t, d, e, n, rows, rfl, hv, hu, ht, bk, fun _ => fun d' H' s hd => ⟨true, T.e_NotUsable, fun _ a ha => ?_, fun q => Bool.noConfusion q⟩, fun c => absurd c (by rw [h]; decide), fun r o e1 _ c => absurd c (by rw [h]; decide)⟩⟩
      refine ⟨_, rfl, .ref (ad 12), .ref (ad 12), true, d', _, rfl, rfl, hd, rfl, (fun u r => r), T.q_NotUsable_BookError, _, rfl, iteT ?_⟩
      refine ⟨_, rfl, _, rfl, rfl, rfl, d', _, _, rfl, hd, rfl, _, _, rfl, _, rfl, iteT ?_⟩
      refine ⟨_, rfl, rfl, rfl, d', _, _, rfl, hd, rfl, .str "rope", .ty "str", _, _, _, rfl, .ty _, TyX.base (.str _), isi_str (K := K) (H := H') (v := .str "rope") (.str "rope"), _, rfl, iteT ?_⟩
      exact ⟨_, rfl, rfl, rfl, d', _, _, rfl, hd, rfl, k _ s⟩
    | o0 h h2 =>
      refine ⟨_, rfl, rfl, _, rfl, iteT ⟨_, rfl, _, rfl, _, rfl, v, u, t, d, e, n, rows, rfl, hv, hu, ht, bk, fun c => absurd c (by rw [h]; decide), fun _ _ => fun d' H' s hd => ⟨true, T.e_NotUsable, fun _ a ha => ?_, fun q => Bool.noConfusion q⟩, fun r o e1 _ _ c => absurd c (by rw [h2]; decide)⟩⟩
      refine ⟨_, rfl, .ref (ad 12), .ref (ad 12), true, d', _, rfl, rfl, hd, rfl, (fun u r => r), T.q_NotUsable_BookError, _, rfl, iteT ?_⟩
      refine ⟨_, rfl, _, rfl, rfl, rfl, d', _, _, rfl, hd, rfl, _, _, rfl, _, rfl, iteT ?_⟩
      refine ⟨_, rfl, rfl, rfl, d', _, _, rfl, hd, rfl, .str "other", .ty "str", _, _, _, rfl, .ty _, TyX.base (.str _), isi_str (K := K) (H := H') (v := .str "other") (.str "other"), _, rfl, iteT ?_⟩
      exact ⟨_, rfl, rfl, rfl, d', _, _, rfl, hd, rfl, k _ s⟩
    | n0 h h2 =>
      refine ⟨_, rfl, rfl, _, rfl, iteT ⟨_, rfl, _, rfl, _, rfl, v, u, t, _, _, n, rows, rfl, hv, hu, ht, bk, fun c => absurd c (by rw [h]; decide), fun _ c => absurd c (by rw [h2]; decide), fun r o e1 e2 _ _ H' s => ⟨_, rfl, rfl, _, rfl, iteF ⟨_, rfl, rfl, _, rfl, iteF ⟨_, rfl, rfl, _, rfl, iteF (k _ s)⟩⟩⟩⟩⟩
    | r1 h =>
      refine ⟨_, rfl, rfl, _, rfl, iteF ⟨_, rfl, rfl, _, rfl, iteT ⟨_, rfl, _, rfl, _, rfl, v, u, t, d, e, n, rows, rfl, hv, hu, ht, bk, fun _ => fun d' H' s hd => ⟨true, T.e_NotUsable, fun _ a ha => ?_, fun q => Bool.noConfusion q⟩, fun r e1 c => absurd c (by rw [h]; decide), fun r x y e1 _ c => absurd c (by rw [h]; decide)⟩⟩⟩
      refine ⟨_, rfl, .ref (ad 12), .ref (ad 12), true, d', _, rfl, rfl, hd, rfl, (fun u r => r), T.q_NotUsable_BookError, _, rfl, iteT ?_⟩
      refine ⟨_, rfl, _, rfl, rfl, rfl, d', _, _, rfl, hd, rfl, _, _, rfl, _, rfl, iteT ?_⟩
      refine ⟨_, rfl, rfl, rfl, d', _, _, rfl, hd, rfl, .str "rope", .ty "str", _, _, _, rfl, .ty _, TyX.base (.str _), isi_str (K := K) (H := H') (v := .str "rope") (.str "rope"), _, rfl, iteT ?_⟩
      exact ⟨_, rfl, rfl, rfl, d', _, _, rfl, hd, rfl, k _ s⟩
    | t1 h h2 =>
      refine ⟨_, rfl, rfl, _, rfl, iteF ⟨_, rfl, rfl, _, rfl, iteT ⟨_, rfl, _, rfl, _, rfl, v, u, t, _, e, n, rows, rfl, hv, hu, ht, bk, fun c => absurd c (by rw [h]; decide), fun r e1 _ _ => fun d' H' s hd => ⟨true, T.e_NotUsable, fun _ a ha => ?_, fun q => Bool.noConfusion q⟩, fun r x y e1 _ _ c => absurd c (by rw [← dRope_inj e1, h2]; decide)⟩⟩⟩
      refine ⟨_, rfl, .ref (ad 12), .ref (ad 12), true, d', _, rfl, rfl, hd, rfl, (fun u r => r), T.q_NotUsable_BookError, _, rfl, iteT ?_⟩
      refine ⟨_, rfl, _, rfl, rfl, rfl, d', _, _, rfl, hd, rfl, _, _, rfl, _, rfl, iteT ?_⟩
      refine ⟨_, rfl, rfl, rfl, d', _, _, rfl, hd, rfl, .str "tie", .ty "str", _, _, _, rfl, .ty _, TyX.base (.str _), isi_str (K := K) (H := H') (v := .str "tie") (.str "tie"), _, rfl, iteT ?_⟩
      exact ⟨_, rfl, rfl, rfl, d', _, _, rfl, hd, rfl, k _ s⟩
    | n1 h h2 =>
      refine ⟨_, rfl, rfl, _, rfl, iteF ⟨_, rfl, rfl, _, rfl, iteT ⟨_, rfl, _, rfl, _, rfl, v, u, t, _, _, n, rows, rfl, hv, hu, ht, bk, fun c => absurd c (by rw [h]; decide), fun r e1 _ c => absurd c (by rw [← dRope_inj e1, h2]; decide), fun r x y e1 e2 _ _ z H' s rz => ⟨_, rfl, rfl, _, rfl, iteF ⟨_, rfl, rfl, _, rfl, iteF (k _ s)⟩⟩⟩⟩⟩
    | r2 h =>
      refine ⟨_, rfl, rfl, _, rfl, iteF ⟨_, rfl, rfl, _, rfl, iteF ⟨_, rfl, rfl, _, rfl, iteT ⟨_, rfl, _, rfl, v, u, d, n, rows, rfl, hv, hu, bkr.inn, bkr.n0, bkr.n10, fun _ => fun d' H' s hd => ⟨true, T.e_NotUsable, fun _ a ha => ?_, fun q => Bool.noConfusion q⟩, fun r e1 c => absurd c (by rw [h]; decide)⟩⟩⟩⟩
      refine ⟨_, rfl, .ref (ad 12), .ref (ad 12), true, d', _, rfl, rfl, hd, rfl, (fun u r => r), T.q_NotUsable_BookError, _, rfl, iteT ?_⟩
      refine ⟨_, rfl, _, rfl, rfl, rfl, d', _, _, rfl, hd, rfl, _, _, rfl, _, rfl, iteT ?_⟩
      refine ⟨_, rfl, rfl, rfl, d', _, _, rfl, hd, rfl, .str "rope", .ty "str", _, _, _, rfl, .ty _, TyX.base (.str _), isi_str (K := K) (H := H') (v := .str "rope") (.str "rope"), _, rfl, iteT ?_⟩
      exact ⟨_, rfl, rfl, rfl, d', _, _, rfl, hd, rfl, k _ s⟩
    | r3 h =>
      refine ⟨_, rfl, rfl, _, rfl, iteF ⟨_, rfl, rfl, _, rfl, iteF ⟨_, rfl, rfl, _, rfl, iteF ⟨_, rfl, rfl, _, rfl, iteT ⟨_, rfl, _, rfl, v, u, d, n, rows, rfl, hv, hu, bkr, fun _ => fun d' H' s hd => ⟨true, T.e_NotUsable, fun _ a ha => ?_, fun q => Bool.noConfusion q⟩, fun r e1 c => absurd c (by rw [h]; decide)⟩⟩⟩⟩⟩
      refine ⟨_, rfl, .ref (ad 12), .ref (ad 12), true, d', _, rfl, rfl, hd, rfl, (fun u r => r), T.q_NotUsable_BookError, _, rfl, iteT ?_⟩
      refine ⟨_, rfl, _, rfl, rfl, rfl, d', _, _, rfl, hd, rfl, _, _, rfl, _, rfl, iteT ?_⟩
      refine ⟨_, rfl, rfl, rfl, d', _, _, rfl, hd, rfl, .str "ropes", .ty "str", _, _, _, rfl, .ty _, TyX.base (.str _), isi_str (K := K) (H := H') (v := .str "ropes") (.str "ropes"), _, rfl, iteT ?_⟩
      exact ⟨_, rfl, rfl, rfl, d', _, _, rfl, hd, rfl, k _ s⟩
end
end LK
/-! values that are no rope of the book, and no tie of the rope's things -/
namespace LK
open PySem PySem.Spec PyProof.Rows L2
variable {n : Int} {rows : List (List Int)}
theorem no_rope {d : PyData} (h : ∀ (lo hi : Nat) (A : List Int), d = dRope ((lo : Int), (hi : Int), A) → lo < hi → (hi : Int) < n → tiedB rows lo hi = true → (∀ a ∈ A, a ∈ btw n rows lo hi) → False) : isRope n rows d = false := by
  cases e : isRope n rows d with
  | false => rfl
  | true =>
    obtain ⟨lo, hi, A, e1, h1, h2, h3, _, h4⟩ := isRope_in e
    exact (h lo hi A e1 h1 h2 h3 h4).elim
theorem no_tie {d : PyData} (h : ∀ (lo hi : Nat), d = dTup [(lo : Int), (hi : Int)] → lo < hi → (hi : Int) < n → False) : isTie n rows d = false := by
  cases e : isTie n rows d with
  | false => rfl
  | true =>
    obtain ⟨lo, hi, e1, h1, h2, _⟩ := isTie_in e
    exact (h lo hi e1 h1 h2).elim
def oddL (n : Int) (r : Rope) : List PyData := [.none, .list [.int r.1, .int r.2.1, dTup r.2.2], .tuple [.int r.2.1, .int r.1, dTup r.2.2], .tuple [.int r.1, .int r.2.1], .tuple [.int 0, .int n, .tuple []], .tuple [.bool false, .bool true, .tuple []], .int 7, .tuple ([.int r.1, .int r.2.1, dTup r.2.2] ++ [.int 0]),
  .tuple [.int r.1, .int r.2.1, .tuple (r.2.2.map .int ++ [.int r.2.1])], .tuple [.int r.1, .int r.2.1, .list (r.2.2.map .int)], .tuple [.int r.1, .int r.2.1, .int 0], .str "rope", .tuple [.int r.1, .int r.1, .tuple []], .tuple [.int r.1, .int r.2.1, .tuple ([.int r.1] ++ r.2.2.map .int)], .tuple [.int r.1, .int r.2.1, .tuple (r.2.2.map (fun _ => PyData.bool true) ++ [.none])]]
theorem ints_last {A B : List Int} {x : PyData} (h : A.map PyData.int ++ [x] = B.map PyData.int) : ∃ C y, B = C ++ [y] ∧ x = .int y ∧ A = C := by
  have hB : B ≠ [] := fun e => by
    rw [e] at h
    have := congrArg List.length h
    simp at this
  have e : B = B.dropLast ++ [B.getLast hB] := (List.dropLast_concat_getLast hB).symm
  rw [e, List.map_append] at h
  obtain ⟨h1, h2⟩ := List.append_inj' h rfl
  refine ⟨B.dropLast, B.getLast hB, e, ?_, ?_⟩
  · injection h2 with h2 _
  · exact (List.map_inj_right (f := PyData.int) fun a b h => by injection h).mp h1
theorem odd_rope {r : Rope} (hr : r ∈ ropesL n rows) : ∀ d ∈ oddL n r, isRope n rows d = false ∧ isRopes n rows d = false := by
  have lt := rope_lt_ends hr
  have tup : ∀ {x : PyData} {ds : List PyData}, isRope n rows x = false → isRopes n rows (.tuple (x :: ds)) = false := fun {x ds} h => by
    show ((x :: ds).all (isRope n rows) && _) = false
    rw [List.all_cons, h]
    rfl
  have i0 : ∀ i : Int, isRope n rows (.int i) = false := fun _ => rfl
  have b0 : ∀ b : Bool, isRope n rows (.bool b) = false := fun _ => rfl
  intro d hd
  simp only [oddL, List.mem_cons, List.not_mem_nil, or_false] at hd
  rcases hd with rfl | rfl | rfl | rfl | rfl | rfl | rfl | rfl | rfl | rfl | rfl | rfl | rfl | rfl | rfl
  · exact ⟨rfl, rfl⟩
  · exact ⟨rfl, rfl⟩
  · refine ⟨no_rope fun lo hi A e h1 _ _ _ => ?_, tup (i0 _)⟩
    injection e with e
    injection e with e1 e
    injection e with e2 _
    injection e1 with e1
    injection e2 with e2
    have e1 : r.2.1 = (lo : Int) := e1
    have e2 : r.1 = (hi : Int) := e2
    omega
  · exact ⟨rfl, tup (i0 _)⟩
  · refine ⟨no_rope fun lo hi A e h1 h2 _ _ => ?_, tup (i0 _)⟩
    injection e with e
    injection e with e1 e
    injection e with e2 _
    injection e2 with e2
    have e2 : n = (hi : Int) := e2
    omega
  · refine ⟨no_rope fun lo hi A e h1 h2 _ _ => ?_, tup (b0 _)⟩
    injection e with e
    injection e with e1 _
    cases e1
  · exact ⟨rfl, rfl⟩
  · exact ⟨rfl, tup (i0 _)⟩
  · refine ⟨no_rope fun lo hi A e h1 h2 _ hA => ?_, tup (i0 _)⟩
    injection e with e
    injection e with e1 e
    injection e with e2 e
    injection e with e3 _
    injection e2 with e2
    injection e3 with e3
    have e2 : r.2.1 = (hi : Int) := e2
    obtain ⟨C, y, eA, ey, _⟩ := ints_last (B := A) e3
    injection ey with ey
    have := (btw_mem.mp (hA y (by rw [eA]; simp))).2.1
    omega
  · refine ⟨no_rope fun lo hi A e h1 h2 _ hA => ?_, tup (i0 _)⟩
    injection e with e
    injection e with e1 e
    injection e with e2 e
    injection e with e3 _
    cases e3
  · refine ⟨no_rope fun lo hi A e h1 h2 _ hA => ?_, tup (i0 _)⟩
    injection e with e
    injection e with e1 e
    injection e with e2 e
    injection e with e3 _
    cases e3
  · exact ⟨rfl, rfl⟩
  · refine ⟨no_rope fun lo hi A e h1 h2 _ hA => ?_, tup (i0 _)⟩
    injection e with e
    injection e with e1 e
    injection e with e2 _
    injection e1 with e1
    injection e2 with e2
    have e1 : r.1 = (lo : Int) := e1
    have e2 : r.1 = (hi : Int) := e2
    omega
  · refine ⟨no_rope fun lo hi A e h1 h2 _ hA => ?_, tup (i0 _)⟩
    injection e with e
    injection e with e1 e
    injection e with e2 e
    injection e with e3 _
    injection e1 with e1
    injection e3 with e3
    have e1 : r.1 = (lo : Int) := e1
    cases A with
    | nil => cases e3
    | cons a A =>
      injection e3 with e3 _
      injection e3 with e3
      have := (btw_mem.mp (hA a (by simp))).1
      omega
  · refine ⟨no_rope fun lo hi A e h1 h2 _ hA => ?_, tup (i0 _)⟩
    injection e with e
    injection e with e1 e
    injection e with e2 e
    injection e with e3 _
    injection e3 with e3
    have hm : PyData.none ∈ A.map PyData.int := by
      rw [← show r.2.2.map (fun _ => PyData.bool true) ++ [.none] = A.map PyData.int from e3]
      simp
    obtain ⟨_, _, z⟩ := List.mem_map.mp hm
    cases z
def tiesO (n : Int) (r : Rope) : List PyData := [.none, .tuple [.int r.2.1, .int r.1], .list [.int r.1, .int r.2.1], .tuple [.int r.1, .int r.1], .tuple [.int r.1, .int n], .tuple [.int r.1, .int r.2.1, .int r.1], .tuple [.int r.1], .int 0, .tuple [.bool false, .bool true], .str "01"]
theorem odd_tie {r : Rope} (hr : r ∈ ropesL n rows) : ∀ d ∈ tiesO n r, tieIn n rows r d = false := by
  have lt := rope_lt_ends hr
  intro d hd
  have k : isTie n rows d = false → tieIn n rows r d = false := fun h => by
    unfold tieIn
    rw [h]
    rfl
  refine k (no_tie fun lo hi e h1 h2 => ?_)
  simp only [tiesO, List.mem_cons, List.not_mem_nil, or_false] at hd
  rcases hd with rfl | rfl | rfl | rfl | rfl | rfl | rfl | rfl | rfl | rfl
  · cases e
  · injection e with e
    injection e with e1 e
    injection e with e2 _
    injection e1 with e1
    injection e2 with e2
    omega
  · cases e
  · injection e with e
    injection e with e1 e
    injection e with e2 _
    injection e1 with e1
    injection e2 with e2
    omega
  · injection e with e
    injection e with e1 e
    injection e with e2 _
    injection e2 with e2
    omega
  · injection e with e
    injection e with e1 e
    injection e with e2 e
    cases e
  · injection e with e
    injection e with e1 e
    cases e
  · cases e
  · injection e with e
    injection e with e1 _
    cases e1
  · cases e
def lotsO (r : Rope) (d : PyData) : List PyData := [.tuple [dRope r, dRope r], .list [dRope r], .tuple [dRope r, d], dRope r, .none, .tuple [d]]
theorem odd_lots {r : Rope} {d : PyData} (hd : isRope n rows d = false) : ∀ e ∈ lotsO r d, isRopes n rows e = false := by
  intro e he
  simp only [lotsO, List.mem_cons, List.not_mem_nil, or_false] at he
  rcases he with rfl | rfl | rfl | rfl | rfl | rfl
  · show ([dRope r, dRope r].all (isRope n rows) && risingR ([dRope r, dRope r].map ropeOfD)) = false
    have e : risingR ([dRope r, dRope r].map ropeOfD) = false := by
      have e2 : ropeOfD (dRope r) = r := dRope_inj (rope_back (d := dRope r) rfl)
      show risingR [ropeOfD (dRope r), ropeOfD (dRope r)] = false
      rw [e2]
      show (decide (ropeRow r < ropeRow r) && true) = false
      rw [decide_eq_false (List.lt_irrefl _)]
      rfl
    rw [e, Bool.and_false]
  · rfl
  · show ((isRope n rows (dRope r) && (isRope n rows d && true)) && risingR ([dRope r, d].map ropeOfD)) = false
    rw [hd, Bool.false_and, Bool.and_false, Bool.false_and]
  · rfl
  · rfl
  · show ((isRope n rows d && true) && risingR ([d].map ropeOfD)) = false
    rw [hd, Bool.false_and, Bool.false_and]
end LK
/-! more of what lays data: tuple(list), tuple(reversed(tuple)), sums with their bound ahead -/
namespace LK
open PySem PySem.Spec PyProof.Rows L2
variable {K : PySem.W.Frag} {S p : Addr} {H0 : Hp} {σ : L2.St} {t ta tb : TE} {tt : TA} {d e : PyData} {ds es : List PyData}
theorem y_tupOf (y : Yld K S p H0 σ t (.list ds)) : Yld K S p H0 σ (tCB (rTupOf K) (tCons t tNil)) (.tuple ds) := fun H Q m k =>
  y H _ m fun v H' m' r => by
    obtain ⟨a, xs, rfl, ha, la, ra⟩ := r.lstA
    refine tupL_use ((hide_same _ _).seq ha) fun q H2 s2 hq => ?_
    have m2 := m'.then s2
    obtain ⟨zs, hS⟩ := m2.ok.atS
    exact k _ _ m2 (.tup (seqT_hide hS hq) la (ra.same (hide_mono s2)))
theorem y_tupRv (y : Yld K S p H0 σ t (.tuple ds)) : Yld K S p H0 σ (tTupRvT K t) (.tuple ds.reverse) := fun H Q m k =>
  y H _ m fun v H' m' r => by
    obtain ⟨a, xs, rfl, ha, la, ra⟩ := r.tupA
    refine ⟨a, xs, rfl, seqT (hide_same _ _) ha, fun q hq => ?_⟩
    exact k _ _ (m'.then (same_upd hq)) (rp_tupNew (free_ne m'.ok hq) ra.reverse hq (by rw [List.length_reverse]; exact la))
theorem y_catH (h : ds.length + es.length ≤ 1000) (ya : Yld K S p H0 σ ta (.tuple ds)) (yb : Yld K S p H0 σ tb (.tuple es)) : Yld K S p H0 σ (tOp (rCatA K) ta tb) (.tuple (ds ++ es)) := y_catT ya yb h
end LK
namespace LK
open PySem PySem.Spec PyProof.Rows L2
theorem neD {X : Cx} (K : PySem.W.Frag) (hu : X.A.units + 64 < cLine) (hK : X.K = K := by rfl) : OpR X (compareOp .NotEq) (rNeD K) := hK ▸ op_neD hu
theorem use_st {t : TE} {σ σ2 : L2.St} {H : Hp} {Q : VK} (e : σ = σ2) (h : t σ2 H Q) : t σ H Q := e ▸ h
/-- what is heard, as data -/
theorem y_ref {K : PySem.W.Frag} {S p : Addr} {H0 : Hp} {σ : L2.St} {tt : TA} {i : Int} {n : Int} {rows : List (List Int)} {d e a : PyData} {A : V} (y : YldA K S p H0 σ tt [.int i, bookD n rows, d, e]) (bkr : BookR n rows) (h : Ref n rows i d e A) (ra : ∀ H, Rp K H A a) : Yld K S p H0 σ (tCall (spRefused K) [] E0 tt) a := fun H Q m k =>
  y H _ m fun vs H' m' r => by
    cases r with
    | cons r1 r =>
      cases r1
      cases r with
      | cons r2 r => cases r with
        | cons r3 r => cases r with
          | cons r4 r =>
            cases r
            exact ⟨i, _, _, _, d, e, n, rows, A, rfl, rp_show r2, rp_show r3, rp_show r4, bkr, h, fun H2 s2 => k _ _ (m'.then s2) (ra _)⟩
/-- a call with a lot that is drawn -/
theorem y_refD {K : PySem.W.Frag} {S p : Addr} {H0 : Hp} {σ : L2.St} {tb ta tk : TE} {n : Int} {rows : List (List Int)} {ds : List PyData} (yb : Yld K S p H0 σ tb (bookD n rows)) (ya : Yld K S p H0 σ ta (.list ds)) (bkr : BookR n rows) (h : ∀ d ∈ ds, isRopes n rows d = false)
    (hb : ∀ H1 (Q1 : VK), (∀ (r : Int) H2, 0 ≤ r → r < (ds.length : Nat) → Mv S p H1 H2 → Q1 (.int r) H2) → Mv S p H0 H1 → tk σ H1 Q1) : Yld K S p H0 σ (tCall (spRefused K) [] E0 (tCons (tC (.int 3)) (tCons tb (tCons (tOp (rIxL K) ta tk) (tCons (tC .non) tNil))))) (.str "ropes") := fun H Q m k => by
  refine yb H _ m fun v H1 m1 rv => ?_
  refine y_draw (ya.at (m.trans m1)) m1.ok (fun H2 Q1 m2 k2 => hb H2 Q1 k2 ((m.trans m1).trans m2)) fun u d H2 hd m2 ru => ?_
  exact ⟨3, v, u, .non, d, .none, n, rows, .str "ropes", rfl, rp_show (m2.rp rv), rp_show ru, .non, bkr, .r3 (h d hd), fun H3 s3 => k _ _ ((m1.trans m2).then s3) (.str _)⟩
def heardL : PyData := .list [.str "rope", .str "other", .str "rope", .str "tie", .str "rope", .str "ropes", .str "ropes", .none]
theorem heard_shaped : SeqAt.shaped heardL = true := by decide +kernel
theorem heard_eqv : PyData.eqv heardL heardL = true := by decide +kernel
def spRefusals (K : PySem.W.Frag) (P : Program) (w : World) : Sp := fun vs H Q _ => ∃ (S : Addr) (v u : V) (d : Addr) (n : Int) (rows B : List (List Int)) (ks : KDs (Int × Int)) (r : Rope), vs = [.ref S, v, .ref d, u] ∧ StOk H S S ∧ Rp K (hide S H) v (bookD n rows) ∧ BookW n rows B ∧ MidsAt K P w (hide S H) d n rows ks ∧ r ∈ ropesL n rows ∧ Rp K (hide S H) u (dRope r) ∧ ∀ H', Mv S S H H' → Q (.bl true) H'
section
variable {P : Program} {w : World} {K : PySem.W.Frag} {mg : Str → Option Value} {base : Heap} {ad : Nat → Addr} {fd : Nat → FuncData}
theorem ok__law_refusals (T : Txt K mg ad fd) : FnOk P w K mg base CX0 11 (ad 55) (fd 55) ["_law_d", "_law_book", "_law_mids", "_law_rope"] (spRefusals K P w) := by
  refine T.F__law_refusals.ok sc__law_refusals (fun vs H Q E h => ?_) (fun cdv A outer s H vs Q E hr h => ?_)
  · obtain ⟨S, v, u, d, n, rows, B, ks, r, rfl, _⟩ := h
    rfl
  · obtain ⟨S, v, u, d, n, rows, B, ks, r, rfl, st, hv, hB, hm, hr1, hu, k⟩ := h
    refine ⟨_, (pss_cons (ps_set (i := 4) sc__law_refusals.nd rfl (Or.inl rfl) (pe_ix (ixT K) (pv 1) pe_int (fun _ _ => rfl)))
  (pss_cons (ps_asg (pv 3) (pg_tup rfl (pgs_cons (pg_name (i := 13) (x := "_law_low") sc__law_refusals.nd rfl (Or.inl rfl)) (pgs_cons (pg_name (i := 14) (x := "_law_high") sc__law_refusals.nd rfl (Or.inl rfl)) (pgs_cons (pg_name (i := 15) (x := "_law_ahead") sc__law_refusals.nd rfl (Or.inl rfl)) pgs_nil)))))
  (pss_cons (ps_set (i := 5) sc__law_refusals.nd rfl (Or.inl rfl) (pe_lst (pa_cons pe_non (pa_cons (pe_callTy (lstOf K) (by rfl) T.g_list (by decide +kernel) (pa_cons (pv 3) pa_nil)) (pa_cons (pe_tup (pa_cons (pv 14) (pa_cons (pv 13) (pa_cons (pv 15) pa_nil)))) (pa_cons (pe_tup (pa_cons (pv 13) (pa_cons (pv 14) pa_nil))) (pa_cons (pe_tup (pa_cons pe_int (pa_cons (pv 4) (pa_cons (pe_tup pa_nil) pa_nil)))) (pa_cons (pe_tup (pa_cons pe_bl (pa_cons pe_bl (pa_cons (pe_tup pa_nil) pa_nil)))) (pa_cons pe_int (pa_cons (pe_op (catA K) (pv 3) (pe_tup (pa_cons pe_int pa_nil))) pa_nil))))))))))
  (pss_cons (ps_set (i := 5) sc__law_refusals.nd rfl (Or.inl rfl) (pe_op (catL K) (pv 5) (pe_lst (pa_cons (pe_tup (pa_cons (pv 13) (pa_cons (pv 14) (pa_cons (pe_op (catA K) (pv 15) (pe_tup (pa_cons (pv 14) pa_nil))) pa_nil)))) (pa_cons (pe_tup (pa_cons (pv 13) (pa_cons (pv 14) (pa_cons (pe_callTy (lstOf K) (by rfl) T.g_list (by decide +kernel) (pa_cons (pv 15) pa_nil)) pa_nil)))) (pa_cons (pe_tup (pa_cons (pv 13) (pa_cons (pv 14) (pa_cons pe_int pa_nil)))) (pa_cons pe_str (pa_cons (pe_tup (pa_cons (pv 13) (pa_cons (pv 13) (pa_cons (pe_tup pa_nil) pa_nil)))) pa_nil))))))))
  (pss_cons (ps_set (i := 5) sc__law_refusals.nd rfl (Or.inl rfl) (pe_op (catL K) (pv 5) (pe_lst (pa_cons (pe_tup (pa_cons (pv 13) (pa_cons (pv 14) (pa_cons (pe_op (catA K) (pe_tup (pa_cons (pv 13) pa_nil)) (pv 15)) pa_nil)))) (pa_cons (pe_tup (pa_cons (pv 13) (pa_cons (pv 14) (pa_cons (pe_op (catA K) (pe_callTy (tupOf K) (by rfl) T.g_tuple (by decide +kernel) (pa_cons (pe_lc (own := [("_law_x", 16)]) (g := gName 16) rfl sc__law_refusals.nd (piT K (pv 15)) (blkOk_by (N := ["_law_d", "_law_book", "_law_mids", "_law_rope", "_law_size", "_law_odd", "_law_wrong", "_law_ties", "_law_strange", "_law_heard", "_law_lots", "_law_things", "_law_tie", "_law_low", "_law_high", "_law_ahead", "_law_x"]) (sc := defScope s__law_refusals) (by decide +kernel)) (fun _ _ _ _ _ => (pg_name (i := 16) (x := "_law_x") sc__law_refusals.nd rfl (Or.inl rfl))) (fun _ _ _ _ _ => pts_nil) (fun _ _ _ _ _ => pe_bl)) pa_nil)) (pe_tup (pa_cons pe_non pa_nil))) pa_nil)))) pa_nil)))))
  (pss_cons (ps_set (i := 6) sc__law_refusals.nd rfl (Or.inl rfl) (pe_ix (ixL K) (pv 5) (pe_call (ok__law_take T) (hr.mono (by decide)) rfl T.m__law_take T.F__law_take.kp (b__law_take T) .nil pass0 (pa_cons (pv 0) (pa_cons pe_int pa_nil))) (fun _ _ => rfl)))
  (pss_cons (ps_set (i := 7) sc__law_refusals.nd rfl (Or.inl rfl) (pe_lst (pa_cons pe_non (pa_cons (pe_tup (pa_cons (pv 14) (pa_cons (pv 13) pa_nil))) (pa_cons (pe_lst (pa_cons (pv 13) (pa_cons (pv 14) pa_nil))) (pa_cons (pe_tup (pa_cons (pv 13) (pa_cons (pv 13) pa_nil))) (pa_cons (pe_tup (pa_cons (pv 13) (pa_cons (pv 4) pa_nil))) (pa_cons (pe_tup (pa_cons (pv 13) (pa_cons (pv 14) (pa_cons (pv 13) pa_nil)))) (pa_cons (pe_tup (pa_cons (pv 13) pa_nil)) (pa_cons pe_int (pa_cons (pe_tup (pa_cons pe_bl (pa_cons pe_bl pa_nil))) (pa_cons pe_str pa_nil))))))))))))
  (pss_cons (ps_set (i := 8) sc__law_refusals.nd rfl (Or.inl rfl) (pe_ix (ixL K) (pv 7) (pe_call (ok__law_take T) (hr.mono (by decide)) rfl T.m__law_take T.F__law_take.kp (b__law_take T) .nil pass0 (pa_cons (pv 0) (pa_cons pe_int pa_nil))) (fun _ _ => rfl)))
  (pss_cons (ps_set (i := 9) sc__law_refusals.nd rfl (Or.inl rfl) (pe_lst (pa_cons (pe_call (ok__law_refused T) (hr.mono (by decide)) rfl T.m__law_refused T.F__law_refused.kp (b__law_refused T) .nil pass0 (pa_cons pe_int (pa_cons (pv 1) (pa_cons (pv 6) (pa_cons (pv 6) pa_nil))))) (pa_cons (pe_call (ok__law_refused T) (hr.mono (by decide)) rfl T.m__law_refused T.F__law_refused.kp (b__law_refused T) .nil pass0 (pa_cons pe_int (pa_cons (pv 1) (pa_cons (pv 3) (pa_cons (pv 6) pa_nil))))) pa_nil))))
  (pss_cons (ps_set (i := 9) sc__law_refusals.nd rfl (Or.inl rfl) (pe_op (catL K) (pv 9) (pe_lst (pa_cons (pe_call (ok__law_refused T) (hr.mono (by decide)) rfl T.m__law_refused T.F__law_refused.kp (b__law_refused T) .nil pass0 (pa_cons pe_int (pa_cons (pv 1) (pa_cons (pv 6) (pa_cons (pv 8) pa_nil))))) (pa_cons (pe_call (ok__law_refused T) (hr.mono (by decide)) rfl T.m__law_refused T.F__law_refused.kp (b__law_refused T) .nil pass0 (pa_cons pe_int (pa_cons (pv 1) (pa_cons (pv 3) (pa_cons (pv 8) pa_nil))))) pa_nil)))))
  (pss_cons (ps_set (i := 9) sc__law_refusals.nd rfl (Or.inl rfl) (pe_op (catL K) (pv 9) (pe_lst (pa_cons (pe_call (ok__law_refused T) (hr.mono (by decide)) rfl T.m__law_refused T.F__law_refused.kp (b__law_refused T) .nil pass0 (pa_cons pe_int (pa_cons (pv 1) (pa_cons (pv 6) (pa_cons pe_non pa_nil))))) (pa_cons (pe_call (ok__law_refused T) (hr.mono (by decide)) rfl T.m__law_refused T.F__law_refused.kp (b__law_refused T) .nil pass0 (pa_cons pe_int (pa_cons (pv 1) (pa_cons (pv 6) (pa_cons pe_non pa_nil))))) pa_nil)))))
  (pss_cons (ps_set (i := 10) sc__law_refusals.nd rfl (Or.inl rfl) (pe_lst (pa_cons (pe_tup (pa_cons (pv 3) (pa_cons (pv 3) pa_nil))) (pa_cons (pe_lst (pa_cons (pv 3) pa_nil)) (pa_cons (pe_tup (pa_cons (pv 3) (pa_cons (pv 6) pa_nil))) (pa_cons (pv 3) (pa_cons pe_non (pa_cons (pe_tup (pa_cons (pv 6) pa_nil)) pa_nil))))))))
  (pss_cons (ps_set (i := 9) sc__law_refusals.nd rfl (Or.inl rfl) (pe_op (catL K) (pv 9) (pe_lst (pa_cons (pe_call (ok__law_refused T) (hr.mono (by decide)) rfl T.m__law_refused T.F__law_refused.kp (b__law_refused T) .nil pass0 (pa_cons pe_int (pa_cons (pv 1) (pa_cons (pe_ix (ixL K) (pv 10) (pe_call (ok__law_take T) (hr.mono (by decide)) rfl T.m__law_take T.F__law_take.kp (b__law_take T) .nil pass0 (pa_cons (pv 0) (pa_cons pe_int pa_nil))) (fun _ _ => rfl)) (pa_cons pe_non pa_nil))))) (pa_cons (pe_call (ok__law_refused T) (hr.mono (by decide)) rfl T.m__law_refused T.F__law_refused.kp (b__law_refused T) .nil pass0 (pa_cons pe_int (pa_cons (pv 1) (pa_cons (pv 3) (pa_cons (pe_tup (pa_cons (pv 13) (pa_cons (pv 14) pa_nil))) pa_nil))))) pa_nil)))))
  (pss_cons (ps_if (pt_cmpR (neD K (hu64 hr)) (pv 9) (pe_lst (pa_cons pe_str (pa_cons pe_str (pa_cons pe_str (pa_cons pe_str (pa_cons pe_str (pa_cons pe_str (pa_cons pe_str (pa_cons pe_non pa_nil))))))))) (nomark _)) (pss_one (ps_ret pe_bl))
  pss_nil)
  (pss_cons (ps_set (i := 11) sc__law_refusals.nd rfl (Or.inl rfl) (pe_op (catL K) (pe_lst (pa_cons (pv 13) (pa_cons (pv 14) pa_nil))) (pe_callTy (lstOf K) (by rfl) T.g_list (by decide +kernel) (pa_cons (pe_kdget pairK K P w (hu65 hr) (pv 2) (pe_tup (pa_cons (pv 13) (pa_cons (pv 14) pa_nil))) (fun _ _ => rfl)) pa_nil))))
  (pss_cons (ps_lock (ps_for PassesOwn.never rfl (pi_kd pairK P w (pv 2)) (pg_name (i := 12) (x := "_law_tie") sc__law_refusals.nd rfl (Or.inl rfl))
  (pss_one (ps_if (PW.pt (pw_or (pt_cmpR (notInS K) (pe_ix (ixT K) (pv 12) pe_int (fun _ _ => rfl)) (pv 11) (by with_unfolding_all rfl)) (pw_or1 (pt_cmpR (notInS K) (pe_ix (ixT K) (pv 12) pe_int (fun _ _ => rfl)) (pv 11) (by with_unfolding_all rfl))))) (pss_one (ps_if (pt_cmpR op_ne (pe_call (ok__law_refused T) (hr.mono (by decide)) rfl T.m__law_refused T.F__law_refused.kp (b__law_refused T) .nil pass0 (pa_cons pe_int (pa_cons (pv 1) (pa_cons (pv 3) (pa_cons (pv 12) pa_nil))))) pe_str (nomark _)) (pss_one (ps_ret pe_bl))
  pss_nil))
  pss_nil))))
  (pss_one (ps_ret (pe_cmpR op_isN (pe_call (ok__law_refused T) (hr.mono (by decide)) rfl T.m__law_refused T.F__law_refused.kp (b__law_refused T) .nil pass0 (pa_cons pe_int (pa_cons (pv 1) (pa_cons (pv 3) (pa_cons (pv 3) pa_nil))))) pe_non (nomark _)))))))))))))))))))), ?_⟩
    rw [show L2.start ["_law_d", "_law_book", "_law_mids", "_law_rope", "_law_size", "_law_odd", "_law_wrong", "_law_ties", "_law_strange", "_law_heard", "_law_lots", "_law_things", "_law_tie", "_law_low", "_law_high", "_law_ahead", "_law_x"] [.ref S, v, .ref d, u] = [some (.ref S), some v, some (.ref d), some u, none, none, none, none, none, none, none, none, none, none, none, none, none] from rfl]
    dsimp only [gName, tSeq, tAsg, tRet, List.set]
    have h0 : 0 ≤ n := hB.bk.2.1
    have h10 := hB.n10
    have bkr : BookR n rows := ⟨hB.inn, h0, h10, Nat.le_trans (whole_few hB.wh hB.te h0 h10) (by decide)⟩
    obtain ⟨lo', hi', el, eh, lt', hn', tt', sub'⟩ := rope_mem.mp hr1
    have lA : r.2.2.length ≤ 8 := Nat.le_trans sub'.length_le (btw_len h10 (by omega) hn')
    obtain ⟨ua, ca, rfl, su, tc⟩ := rp_rope hu
    have hc : Rp K (hide S H) (.ref ca) (.tuple (r.2.2.map PyData.int)) := tc.rp
    have hu : Rp K (hide S H) (.ref ua) (.tuple [.int r.1, .int r.2.1, .tuple (r.2.2.map PyData.int)]) := hu
    obtain ⟨b, L, bs, rfl, hb, hL, hz, hrb⟩ := rp_book hv
    refine ⟨_, rfl, b, _, 0, _, rfl, rfl, seqT (hide_same _ _) hb, rfl, ?_⟩
    refine ⟨_, rfl, ua, _, rfl, seqT (hide_same _ _) su, rfl, _, _, rfl, _, _, rfl, _, _, rfl, rfl, ?_⟩
    try dsimp only [gName, tSeq, tAsg, tRet, List.set]
    refine y_useL (S := S) (p := S) (K := K) (y_lst (ya_cons y_non (ya_cons (y_lstOf (y_var rfl hu)) (ya_cons (y_tup (ya_cons (y_var rfl (.int r.2.1)) (ya_cons (y_var rfl (.int r.1)) (ya_cons (y_var rfl hc) ya_nil)))) (ya_cons (y_tup (ya_cons (y_var rfl (.int r.1)) (ya_cons (y_var rfl (.int r.2.1)) ya_nil))) (ya_cons (y_tup (ya_cons y_int (ya_cons (y_var rfl (.int n)) (ya_cons (y_tup ya_nil) ya_nil)))) (ya_cons (y_tup (ya_cons y_bl (ya_cons y_bl (ya_cons (y_tup ya_nil) ya_nil)))) (ya_cons y_int (ya_cons (y_catT (y_var rfl hu) (y_tup (ya_cons y_int ya_nil)) (by show 3 + 1 ≤ 1000; decide)) ya_nil))))))))) st fun v5 H1 m1 r5 => ?_
    have hu1 := m1.rp hu
    have hc1 := m1.rp hc
    try dsimp only [gName, tSeq, tAsg, tRet, List.set]
    refine y_useO (S := S) (p := S) (K := K) (y_catL (y_var rfl r5) (y_lst (ya_cons (y_tup (ya_cons (y_var rfl (.int r.1)) (ya_cons (y_var rfl (.int r.2.1)) (ya_cons (y_catT (y_var rfl hc1) (y_tup (ya_cons (y_var rfl (.int r.2.1)) ya_nil)) (by rw [List.length_map]; show _ + 1 ≤ 1000; omega)) ya_nil)))) (ya_cons (y_tup (ya_cons (y_var rfl (.int r.1)) (ya_cons (y_var rfl (.int r.2.1)) (ya_cons (y_lstOf (y_var rfl hc1)) ya_nil)))) (ya_cons (y_tup (ya_cons (y_var rfl (.int r.1)) (ya_cons (y_var rfl (.int r.2.1)) (ya_cons y_int ya_nil)))) (ya_cons y_str (ya_cons (y_tup (ya_cons (y_var rfl (.int r.1)) (ya_cons (y_var rfl (.int r.1)) (ya_cons (y_tup ya_nil) ya_nil)))) ya_nil)))))) (by show 8 + 5 ≤ 1000; decide)) m1.ok fun v6 H2 m2 r6 => ?_
    have hu2 := m2.rp hu1
    have hc2 := m2.rp hc1
    try dsimp only [gName, tSeq, tAsg, tRet, List.set]
    refine y_useO (S := S) (p := S) (K := K) (y_catL (y_var rfl r6) (y_lst (ya_cons (y_tup (ya_cons (y_var rfl (.int r.1)) (ya_cons (y_var rfl (.int r.2.1)) (ya_cons (y_catT (y_tup (ya_cons (y_var rfl (.int r.1)) ya_nil)) (y_var rfl hc2) (by rw [List.length_map]; show 1 + _ ≤ 1000; omega)) ya_nil)))) (ya_cons (y_tup (ya_cons (y_var rfl (.int r.1)) (ya_cons (y_var rfl (.int r.2.1)) (ya_cons (y_catT (ds := r.2.2.map fun _ => PyData.bool true) (fun HA QA mA kA => ?comp) (y_tup (ya_cons y_non ya_nil)) (by rw [List.length_map]; show _ + 1 ≤ 1000; omega)) ya_nil)))) ya_nil))) (by show 13 + 2 ≤ 1000; decide)) m2.ok fun v7 H3 m3 r7 => ?_
    case comp =>
      have hcA := (mA.rp hc2).same (hide_same _ _)
      obtain ⟨_, xs0, ec, sA, lsA, rA⟩ := Rp.tupA (ds := r.2.2.map PyData.int) hcA
      cases ec
      have lx0 := rA.length
      rw [List.length_map] at lx0
      refine ⟨_, rfl, ca, rfl, ⟨_, sA⟩, fun D hD => ?_⟩
      refine lcT (K := K) (xs := xs0) (fun _ => true) (fun _ => .bool true) hD sA lsA (fun _ _ _ => rfl) (fun j x HB hj sB Q1 Q2 k1 k2 => ?_) (fun zs HB sB hzB rz => ?_)
      · exact ⟨rfl, k1 rfl _ _ (Same.refl _) (.bl true)⟩
      · rw [filter_true, lx0] at rz
        have ez : ((List.range r.2.2.length).map fun _ => PyData.bool true) = r.2.2.map fun _ => PyData.bool true := map_range (fun _ : Int => PyData.bool true) 0 r.2.2
        rw [ez] at rz
        have lz := rz.length
        rw [List.length_map] at lz
        dsimp only [tNil]
        refine tupL_use (SqL.of hzB) fun q HC sC hq => ?_
        have mC := Mv.of mA.ok (sB.trans sC)
        have nb : ∀ l : List Int, noLs (l.map fun _ => PyData.bool true) = true := fun l => by
          induction l with
          | nil => rfl
          | cons x l ih =>
            show (noL (.bool true) && noLs (l.map fun _ => PyData.bool true)) = true
            rw [ih]
            rfl
        exact kA _ _ mC (rp_hide mC.ok (nb _) (.tup hq (by omega) (rz.same sC)))
    have m23 := (m1.trans m2).trans m3
    try dsimp only [gName, tSeq, tAsg, tRet, List.set]
    refine y_draw (K := K) (S := S) (p := S) (y_var rfl r7) m3.ok (fun HA Q1 mA kA => ⟨_, rfl, S, 15, rfl, mA.ok, by decide, fun q HB q0 q1 mB => kA q HB q0 (by simpa using q1) mB⟩) fun vw dw H4 hdw m4 rw4 => ?_
    obtain ⟨hw1, hw2⟩ := odd_rope hr1 dw hdw
    clear hdw
    have m04 := m23.trans m4
    try dsimp only [gName, tSeq, tAsg, tRet, List.set]
    refine y_useL (S := S) (p := S) (K := K) (y_lst (ya_cons y_non (ya_cons (y_tup (ya_cons (y_var rfl (.int r.2.1)) (ya_cons (y_var rfl (.int r.1)) ya_nil))) (ya_cons (y_lst (ya_cons (y_var rfl (.int r.1)) (ya_cons (y_var rfl (.int r.2.1)) ya_nil))) (ya_cons (y_tup (ya_cons (y_var rfl (.int r.1)) (ya_cons (y_var rfl (.int r.1)) ya_nil))) (ya_cons (y_tup (ya_cons (y_var rfl (.int r.1)) (ya_cons (y_var rfl (.int n)) ya_nil))) (ya_cons (y_tup (ya_cons (y_var rfl (.int r.1)) (ya_cons (y_var rfl (.int r.2.1)) (ya_cons (y_var rfl (.int r.1)) ya_nil)))) (ya_cons (y_tup (ya_cons (y_var rfl (.int r.1)) ya_nil)) (ya_cons y_int (ya_cons (y_tup (ya_cons y_bl (ya_cons y_bl ya_nil))) (ya_cons y_str ya_nil))))))))))) m4.ok fun v7' H5 m5 r8 => ?_
    try dsimp only [gName, tSeq, tAsg, tRet, List.set]
    refine y_draw (K := K) (S := S) (p := S) (y_var rfl r8) m5.ok (fun HA Q1 mA kA => ⟨_, rfl, S, 10, rfl, mA.ok, by decide, fun q HB q0 q1 mB => kA q HB q0 (by simpa using q1) mB⟩) fun vs' ds' H6 hds m6 rs6 => ?_
    have hs1 := odd_tie hr1 ds' hds
    clear hds
    have m56 := m5.trans m6
    have m06 := m04.trans m56
    have hv6 := m06.rp hv
    have hu6 := m06.rp hu
    have rw6 := m56.rp rw4
    have hir := isRope_of hr1
    try dsimp only [gName, tSeq, tAsg, tRet, List.set]
    refine y_useL (S := S) (p := S) (K := K) (y_lst (ya_cons (y_ref (ya_cons y_int (ya_cons (y_var rfl hv6) (ya_cons (y_var rfl rw6) (ya_cons (y_var rfl rw6) ya_nil)))) bkr (.r0 hw1) (fun _ => .str _)) (ya_cons (y_ref (ya_cons y_int (ya_cons (y_var rfl hv6) (ya_cons (y_var rfl hu6) (ya_cons (y_var rfl rw6) ya_nil)))) bkr (.o0 hir hw1) (fun _ => .str _)) ya_nil))) m6.ok fun v9 H7 m7 r9 => ?_
    have hv7 := m7.rp hv6
    have hu7 := m7.rp hu6
    have rw7 := m7.rp rw6
    have rs7 := m7.rp rs6
    try dsimp only [gName, tSeq, tAsg, tRet, List.set]
    refine y_useO (S := S) (p := S) (K := K) (y_catL (y_var rfl r9) (y_lst (ya_cons (y_ref (ya_cons y_int (ya_cons (y_var rfl hv7) (ya_cons (y_var rfl rw7) (ya_cons (y_var rfl rs7) ya_nil)))) bkr (.r1 hw1) (fun _ => .str _)) (ya_cons (y_ref (ya_cons y_int (ya_cons (y_var rfl hv7) (ya_cons (y_var rfl hu7) (ya_cons (y_var rfl rs7) ya_nil)))) bkr (.t1 (r := r) hir hs1) (fun _ => .str _)) ya_nil))) (by show 2 + 2 ≤ 1000; decide)) m7.ok fun v9' H8 m8 r10 => ?_
    have hv8 := m8.rp hv7
    have hu8 := m8.rp hu7
    have rw8 := m8.rp rw7
    try dsimp only [gName, tSeq, tAsg, tRet, List.set]
    refine y_useO (S := S) (p := S) (K := K) (y_catL (y_var rfl r10) (y_lst (ya_cons (y_ref (ya_cons y_int (ya_cons (y_var rfl hv8) (ya_cons (y_var rfl rw8) (ya_cons y_non ya_nil)))) bkr (.r2 hw1) (fun _ => .str _)) (ya_cons (y_ref (ya_cons y_int (ya_cons (y_var rfl hv8) (ya_cons (y_var rfl rw8) (ya_cons y_non ya_nil)))) bkr (.r3 hw2) (fun _ => .str _)) ya_nil))) (by show 4 + 2 ≤ 1000; decide)) m8.ok fun v10 H9 m9 r11 => ?_
    have hv9 := m9.rp hv8
    have hu9 := m9.rp hu8
    have rw9 := m9.rp rw8
    try dsimp only [gName, tSeq, tAsg, tRet, List.set]
    refine y_useL (S := S) (p := S) (K := K) (y_lst (ya_cons (y_tup (ya_cons (y_var rfl hu9) (ya_cons (y_var rfl hu9) ya_nil))) (ya_cons (y_lst (ya_cons (y_var rfl hu9) ya_nil)) (ya_cons (y_tup (ya_cons (y_var rfl hu9) (ya_cons (y_var rfl rw9) ya_nil))) (ya_cons (y_var rfl hu9) (ya_cons y_non (ya_cons (y_tup (ya_cons (y_var rfl rw9) ya_nil)) ya_nil))))))) m9.ok fun v11 H10 m10 r12 => ?_
    have hv10 := m10.rp hv9
    have hu10 := m10.rp hu9
    have r11' := m10.rp r11
    have tin := tie_in hB hr1 things_lo things_hi (rope_lt_ends hr1)
    try dsimp only [gName, tSeq, tAsg, tRet, List.set]
    refine y_useO (S := S) (p := S) (K := K) (y_catL (y_var rfl r11') (y_lst (ya_cons (y_refD (y_var rfl hv10) (y_var rfl r12) bkr (odd_lots (r := r) hw1) (fun HA Q1 kA mA => ⟨_, rfl, S, 6, rfl, mA.ok, by decide, fun q HB q0 q1 mB => kA q HB q0 (by simpa using q1) mB⟩)) (ya_cons (y_ref (ya_cons y_int (ya_cons (y_var rfl hv10) (ya_cons (y_var rfl hu10) (ya_cons (y_tup (ya_cons (y_var rfl (.int r.1)) (ya_cons (y_var rfl (.int r.2.1)) ya_nil))) ya_nil)))) bkr (.n1 (r := r) (x := r.1) (y := r.2.1) hir tin.1) (fun _ => .non)) ya_nil))) (by show 6 + 2 ≤ 1000; decide)) m10.ok fun v12 H11 m11 r13 => ?_
    have m6b := (((m7.trans m8).trans m9).trans m10).trans m11
    have m0b := m06.trans m6b
    have hv11 := m11.rp hv10
    have hu11 := m11.rp hu10
    clear r5 r6 r7 r8 r9 r10 r11 r11' r12 rw9 rw8 rw7 rw6 rs7 rs6 hv10 hv9 hv8 hv7 hv6 hu10 hu9 hu8 hu7 hu6 hc1 hc2 hu1 hu2
    try dsimp only [gName, tSeq, tAsg, tRet, List.set]
    refine ⟨_, rfl, (by show 8 ≤ sizeLine; decide), fun q9 hq9 => ?_⟩
    have s12 := same_upd (o := .lst [V.str "rope", .str "other", .str "rope", .str "tie", .str "rope", .str "ropes", .str "ropes", .non]) hq9
    have hq9b : Rp K (upd H11 q9 (.lst [V.str "rope", .str "other", .str "rope", .str "tie", .str "rope", .str "ropes", .str "ropes", .non])) (.ref q9) heardL := .lst (SqL.of upd_same) (by show 8 ≤ 1000; decide) (.cons (.str _) (.cons (.str _) (.cons (.str _) (.cons (.str _) (.cons (.str _) (.cons (.str _) (.cons (.str _) (.cons .non .nil))))))))
    have r14 : Rp K H11 v12 heardL := rp_show r13
    have r14 := r14.same s12
    generalize upd H11 q9 (.lst [V.str "rope", .str "other", .str "rope", .str "tie", .str "rope", .str "ropes", .str "ropes", .non]) = H12 at s12 hq9b r14 ⊢
    refine ⟨heardL, heardL, r14.dp, hq9b.dp, heard_shaped, heard_shaped, _, rfl, ?_⟩
    rw [heard_eqv]
    refine iteF ?_
    have m12 := m0b.then s12
    have st12 := m12.ok
    have hv12 : Rp K H12 (.ref b) (bookD n rows) := (rp_show hv11).same s12
    have hu12 : Rp K H12 (.ref ua) (dRope r) := (rp_show hu11).same s12
    have hm12 := (hm.same m12.same).same (hide_same _ _)
    clear r13 hq9b r14 hv11 hu11
    obtain ⟨pv, hpv, tpv⟩ := hm12.vals r.1 r.2.1 (midKeys_of tin.2.1 (rope_lt_ends hr1) tin.2.2.1 tin.2.2.2)
    have lbt := btw_len (rows := rows) h10 (x := r.1) (y := r.2.1) tin.2.1 tin.2.2.1
    refine ⟨_, rfl, _, rfl, (by show 2 ≤ sizeLine; decide), fun L1 hL1 => ?_⟩
    have sL1 := same_upd (o := .lst [V.int r.1, .int r.2.1]) hL1
    have gL1 : upd H12 L1 (.lst [V.int r.1, .int r.2.1]) L1 = some (.lst [V.int r.1, .int r.2.1]) := upd_same
    generalize upd H12 L1 (.lst [V.int r.1, .int r.2.1]) = HA at sL1 gL1 ⊢
    refine ⟨_, rfl, _, rfl, _, rfl, (by show 2 ≤ sizeLine; decide), fun u1 hu1 => ?_⟩
    have su1 := same_upd (o := .tup [V.int r.1, .int r.2.1]) hu1
    have ru1 : Rp K (upd HA u1 (.tup [V.int r.1, .int r.2.1])) (.ref u1) (pairK.enc (r.1, r.2.1)) := TupI.rp (ns := [r.1, r.2.1]) ⟨SqT.of upd_same, by show 2 ≤ 1000; decide⟩
    generalize upd HA u1 (.tup [V.int r.1, .int r.2.1]) = HB at su1 ru1 ⊢
    have s1B := sL1.trans su1
    have hmB := hm12.same s1B
    refine ⟨d, u1, ks, (r.1, r.2.1), .ref pv, rfl, rfl, .inl hmB.at_, hmB.kk, ru1, hpv, ?_⟩
    obtain ⟨bt, ebt⟩ : ∃ bt, bt = btw n rows r.1 r.2.1 := ⟨_, rfl⟩
    rw [← ebt] at tpv lbt
    dsimp only [tNil]
    refine lstT_use (.inr (tpv.same s1B).1) fun L2 HC sC hL2 gL2 => ?_
    refine ⟨L1, L2, _, _, rfl, rfl, SqL.of ((su1.trans sC) _ _ gL1), SqL.of gL2, by rw [List.length_map]; show 2 + _ ≤ _; omega, fun L3 hL3 => ?_⟩
    have sL3 := same_upd (o := .lst ([V.int r.1, .int r.2.1] ++ bt.map V.int)) hL3
    have gL3 : upd HC L3 (.lst ([V.int r.1, .int r.2.1] ++ bt.map V.int)) L3 = some (.lst ((r.1 :: r.2.1 :: bt).map V.int)) := upd_same
    have s1D := (s1B.trans sC).trans sL3
    have L3d : L3 ≠ d := fun z => by
      have := (s1B.trans sC) _ _ hm12.at_
      rw [z, this] at hL3
      cases hL3
    generalize upd HC L3 (.lst ([V.int r.1, .int r.2.1] ++ bt.map V.int)) = HD at sL3 gL3 s1D ⊢
    have mth : ∀ z, z ∈ r.1 :: r.2.1 :: bt ↔ z ∈ thingsR n rows r := fun z => by
      rw [ebt]
      show _ ↔ z ∈ thingsT n rows r.1 r.2.1
      rw [thingsT_mem, List.mem_cons, List.mem_cons]
      constructor
      · rintro (h | h | h)
        · exact .inl h
        · exact .inr (.inr h)
        · exact .inr (.inl h)
      · rintro (h | h | h)
        · exact .inl h
        · exact .inr (.inr h)
        · exact .inr (.inl h)
    have hvD := hv12.same s1D
    have huD := hu12.same s1D
    have hmD := hm12.same s1D
    have gd := hmD.at_
    -- the dict is locked
    refine ⟨d, KdO pairK P w d ks, gd, True.intro, fun od => ?_⟩
    have gL : upd HD d (.frz od (KdO pairK P w d ks)) d = some (.frz od (KdO pairK P w d ks)) := upd_same
    have sL : Same (hide d HD) (upd HD d (.frz od (KdO pairK P w d ks))) := fun c u e => by
      have hne : c ≠ d := fun z => by rw [z, hide_self] at e; cases e
      rw [hide_ne hne] at e
      rw [upd_ne hne]
      exact e
    generalize upd HD d (.frz od (KdO pairK P w d ks)) = HL at gL sL ⊢
    have hvL := (rpH_ext gd hvD).same sL
    have huL := (rpH_ext gd huD).same sL
    have gL3L : HL L3 = some (.lst ((r.1 :: r.2.1 :: bt).map V.int)) := sL _ _ (by rw [hide_ne L3d]; exact gL3)
    refine ⟨_, rfl, d, od, ks, rfl, gL, for_kd (fun i σ H2 => ∃ vt : Option V, σ = [some (.ref S), some (.ref b), some (.ref d), some (.ref ua), some (.int n), some v7, some vw, some v7', some vs', some v12, some v11, some (.ref L3), vt, some (.int r.1), some (.int r.2.1), some (.ref ca), none] ∧ Same HL H2) ⟨_, rfl, Same.refl _⟩ (fun i σ H2 _ ⟨_, _, s2⟩ => s2 _ _ gL) (fun i e σ H2 he ⟨vt, eσ, s2⟩ => ?_) (fun σ H2 ⟨vt, eσ, s2⟩ => ?_)⟩
    · subst eσ
      obtain ⟨ea, ⟨x, y⟩, ev⟩ := e
      have te0 : Rp K HD (.ref ea) (dTup [x, y]) := hmD.kk _ (List.mem_of_getElem? he)
      have te2 := ((rpH_ext gd te0).same sL).same s2
      obtain ⟨ea', eea, te⟩ := te2.tupI
      cases eea
      have gT := s2 _ _ gL3L
      have hv2 := hvL.same s2
      have hu2 := huL.same s2
      have ask : x ∉ thingsR n rows r ∨ y ∉ thingsR n rows r → Ref n rows 1 (dRope r) (dTup [x, y]) (.str "tie") := fun o => by
        refine .t1 hir ?_
        unfold tieIn
        rw [dInts_tup]
        have : ([x, y].all fun z => decide (z ∈ thingsR n rows r)) = false := by
          rw [List.all_eq_false]
          rcases o with o | o
          · exact ⟨x, by simp, by simpa using o⟩
          · exact ⟨y, by simp, by simpa using o⟩
        rw [this, Bool.and_false]
      refine ⟨_, rfl, ea, _, 0, _, rfl, rfl, te.1, rfl, _, rfl, L3, _, rfl, .inl (SqL.of gT), rfl, flat_ints _, _, rfl, ?_⟩
      show if (!inV (.int x) ((r.1 :: r.2.1 :: bt).map V.int)) = true then _ else _
      rw [inV_int]
      cases c1 : decide (x ∈ r.1 :: r.2.1 :: bt) with
      | false =>
        have c1 := of_decide_eq_false c1
        rw [mth] at c1
        refine iteT (iteT ⟨_, rfl, _, rfl, _, rfl, 1, .ref b, .ref ua, .ref ea, dRope r, dTup [x, y], n, rows, .str "tie", rfl, hv2, hu2, te2, bkr, ask (.inl c1), fun H3 s3 => ⟨rfl, _, rfl, ?_⟩⟩)
        exact iteF ⟨_, rfl, s2.trans s3⟩
      | true =>
        refine iteF ⟨_, rfl, ea, _, 1, _, rfl, rfl, te.1, rfl, _, rfl, L3, _, rfl, .inl (SqL.of gT), rfl, flat_ints _, _, rfl, ?_⟩
        show if (!inV (.int y) ((r.1 :: r.2.1 :: bt).map V.int)) = true then _ else _
        rw [inV_int]
        cases c2 : decide (y ∈ r.1 :: r.2.1 :: bt) with
        | true => exact iteF ⟨_, rfl, s2⟩
        | false =>
          have c2 := of_decide_eq_false c2
          rw [mth] at c2
          refine iteT ⟨_, rfl, _, rfl, _, rfl, 1, .ref b, .ref ua, .ref ea, dRope r, dTup [x, y], n, rows, .str "tie", rfl, hv2, hu2, te2, bkr, ask (.inr c2), fun H3 s3 => ⟨rfl, _, rfl, ?_⟩⟩
          exact iteF ⟨_, rfl, s2.trans s3⟩
    · subst eσ
      have gd2 := s2 _ _ gL
      have eh : hide d (upd H2 d (KdO pairK P w d ks)) = hide d H2 := hide_upd_self
      have sU : Same (hide d H2) (upd H2 d (KdO pairK P w d ks)) := by
        rw [← eh]
        exact hide_same d _
      have sH : Same HD (upd H2 d (KdO pairK P w d ks)) := fun c u e => by
        by_cases z : c = d
        · subst z
          rw [upd_same]
          rw [gd] at e
          exact e
        · rw [upd_ne z]
          have h1 : hide d HD c = some u := by rw [hide_ne z]; exact e
          exact s2 _ _ (sL _ _ h1)
      refine ⟨gd2, ?_⟩
      generalize upd H2 d (KdO pairK P w d ks) = HU at sH ⊢
      refine ⟨_, rfl, _, rfl, _, rfl, 0, .ref b, .ref ua, .ref ua, dRope r, dRope r, n, rows, .non, rfl, hvD.same sH, huD.same sH, huD.same sH, bkr, .n0 hir hir, fun H3 s3 => ⟨rfl, ?_⟩⟩
      have e9 : decide (V.non = V.non) = true := decide_eq_true rfl
      rw [e9]
      exact k _ (m12.then ((s1D.trans sH).trans s3))
end
end LK
namespace LK
open PySem PySem.Spec PyProof.Rows L2
theorem MidsAt.hide {K : PySem.W.Frag} {P : Program} {w : World} {H : Hp} {S p d : Addr} {n : Int} {rows : List (List Int)} {ks : KDs (Int × Int)} (st : StOk H S p) (h : MidsAt K P w H d n rows ks) : MidsAt K P w (LK.hide S H) d n rows ks := by
  obtain ⟨zs, eS⟩ := st.atS
  have ne : d ≠ S := fun z => by
    have := h.at_
    rw [z, eS] at this
    cases this
  refine ⟨by rw [hide_ne ne]; exact h.at_, h.keys, fun e he => rp_hide st (noL_dTup _) (h.kk e he), fun a b hab => ?_⟩
  obtain ⟨q, h1, h2⟩ := h.vals a b hab
  exact ⟨q, h1, seqT_hide eS h2.1, h2.2⟩
def spLaw (K : PySem.W.Frag) : Sp := fun vs H Q _ => ∃ (a : Addr) (ns : List Int), vs = [.ref a] ∧ SqL K H a (ns.map V.int) ∧ ns.length ≤ 63 ∧ ∀ H', Q (.bl true) H'
section
variable {P : Program} {w : World} {K : PySem.W.Frag} {mg : Str → Option Value} {base : Heap} {ad : Nat → Addr} {fd : Nat → FuncData}
theorem ok_law (T : Txt K mg ad fd) : FnOk P w K mg base CX0 12 (ad 56) (fd 56) ["_law_script"] (spLaw K) := by
  refine T.F_law.ok sc_law (fun vs H Q E h => ?_) (fun cdv Ar outer s H vs Q E hr h => ?_)
  · obtain ⟨a, ns, rfl, _⟩ := h
    rfl
  · obtain ⟨a, ns, rfl, hs, hl, k⟩ := h
    refine ⟨_, (pss_cons (ps_set (i := 1) sc_law.nd rfl (Or.inl rfl) (pe_call (ok__law_draws T) (hr.mono (by decide)) rfl T.m__law_draws T.F__law_draws.kp (b__law_draws T) .nil pass0 (pa_cons (pv 0) pa_nil)))
  (pss_cons (ps_set (i := 2) sc_law.nd rfl (Or.inl rfl) (pe_call (ok__law_make_book T) (hr.mono (by decide)) rfl T.m__law_make_book T.F__law_make_book.kp (b__law_make_book T) .nil pass0 (pa_cons (pv 1) (pa_cons pe_int pa_nil))))
  (pss_cons (ps_set (i := 3) sc_law.nd rfl (Or.inl rfl) (pe_call (ok__law_betweens T) (hr.mono (by decide)) rfl T.m__law_betweens T.F__law_betweens.kp (b__law_betweens T) .nil pass0 (pa_cons (pv 2) pa_nil)))
  (pss_cons (ps_set (i := 4) sc_law.nd rfl (Or.inl rfl) (pe_call (ok__law_all_ropes T) (hr.mono (by decide)) rfl T.m__law_all_ropes T.F__law_all_ropes.kp (b__law_all_ropes T) .nil pass0 (pa_cons (pv 3) pa_nil)))
  (pss_cons (ps_if (pt_cmpR op_eq (pe_callB (lenS K) (by rfl) T.g_len (by decide +kernel) (pa_cons (pv 4) pa_nil)) pe_int (nomark _)) (pss_one (ps_ret (pe_and (pe_call (ok__law_same T) (hr.mono (by decide)) rfl T.m__law_same T.F__law_same.kp (b__law_same T) .nil pass0 (pa_cons (pe_tup pa_nil) (pa_cons (pe_call (ok_above_of T) (hr.mono (by decide)) rfl T.m_above_of T.F_above_of.kp (b_above_of T) .nil passL (pa_cons (pv 2) (pa_cons (pe_tup pa_nil) pa_nil))) pa_nil))) (pe_one (pe_cmpR op_eq (pe_call (ok__law_refused T) (hr.mono (by decide)) rfl T.m__law_refused T.F__law_refused.kp (b__law_refused T) .nil pass0 (pa_cons pe_int (pa_cons (pv 2) (pa_cons (pe_tup (pa_cons pe_int (pa_cons pe_int (pa_cons (pe_tup pa_nil) pa_nil)))) (pa_cons pe_non pa_nil))))) pe_str (nomark _))))))
  pss_nil)
  (pss_cons (ps_set (i := 5) sc_law.nd rfl (Or.inl rfl) (pe_dnewKd ropeK P w))
  (pss_cons (ps_for PassesOwn.never rfl (piL K (pv 4)) (pg_name (i := 6) (x := "_law_rope") sc_law.nd rfl (Or.inl rfl))
  (pss_one (ps_kdput ropeK K P w (hu65 hr) (pv 5) (pv 6) (pe_call (ok__law_grown_down T) (hr.mono (by decide)) rfl T.m__law_grown_down T.F__law_grown_down.kp (b__law_grown_down T) .nil pass0 (pa_cons (pv 3) (pa_cons (pv 6) pa_nil))) rfl)))
  (pss_cons (ps_if (PW.pt (pw_or (pt_not (pt_val (pe_call (ok__law_pieces_right T) (hr.mono (by decide)) rfl T.m__law_pieces_right T.F__law_pieces_right.kp (b__law_pieces_right T) .nil pass0 (pa_cons (pv 1) (pa_cons (pv 2) (pa_cons (pv 4) (pa_cons (pv 5) pa_nil))))))) (pw_or1 (pt_not (pt_val (pe_call (ok__law_cuts_right T) (hr.mono (by decide)) rfl T.m__law_cuts_right T.F__law_cuts_right.kp (b__law_cuts_right T) .nil pass0 (pa_cons (pv 1) (pa_cons (pv 2) (pa_cons (pv 3) (pa_cons (pv 4) (pa_cons (pv 5) pa_nil))))))))))) (pss_one (ps_ret pe_bl))
  pss_nil)
  (pss_cons (ps_if (pt_not (pt_val (pe_call (ok__law_uppers_right T) (hr.mono (by decide)) rfl T.m__law_uppers_right T.F__law_uppers_right.kp (b__law_uppers_right T) .nil pass0 (pa_cons (pv 1) (pa_cons (pv 2) (pa_cons (pv 4) (pa_cons (pv 5) pa_nil))))))) (pss_one (ps_ret pe_bl))
  pss_nil)
  (pss_one (ps_ret (pe_call (ok__law_refusals T) (hr.mono (by decide)) rfl T.m__law_refusals T.F__law_refusals.kp (b__law_refusals T) .nil pass0 (pa_cons (pv 1) (pa_cons (pv 2) (pa_cons (pv 3) (pa_cons (pe_ix (ixL K) (pv 4) (pe_call (ok__law_take T) (hr.mono (by decide)) rfl T.m__law_take T.F__law_take.kp (b__law_take T) .nil pass0 (pa_cons (pv 1) (pa_cons (pe_callB (lenS K) (by rfl) T.g_len (by decide +kernel) (pa_cons (pv 4) pa_nil)) pa_nil))) (fun _ _ => rfl)) pa_nil)))))))))))))))), ?_⟩
    refine ⟨_, rfl, a, ns, rfl, hs, hl, fun S H1 s1 hS st => ?_⟩
    refine ⟨_, rfl, S, rfl, st, fun v n rows B H2 m2 rv hB => ?_⟩
    refine ⟨_, rfl, v, n, rows, B, rfl, rp_show rv, hB, fun d ks H3 s3 dn hm3 => ?_⟩
    have h0 : 0 ≤ n := hB.bk.2.1
    have h10 := hB.n10
    have fw := whole_few hB.wh hB.te h0 h10
    have bkr : BookR n rows := ⟨hB.inn, h0, h10, Nat.le_trans fw (by decide)⟩
    refine ⟨_, rfl, d, n, rows, ks, rfl, hm3, bkr, fun p ys H4 s4 pn gp ry => ?_⟩
    have m3 := m2.then s3
    have m4 := m3.then s4
    have st4 := m4.ok
    have rv4 : Rp K (hide S H4) v (bookD n rows) := ((Mv.of m2.ok s3).trans (Mv.of m3.ok s4)).rp rv
    have hm4 := hm3.same s4
    have lys := ry.length
    rw [List.length_map] at lys
    have lR : (ropesL n rows).length ≤ 720 := by
      unfold ropesL
      rw [(srtRopes_perm _).length_eq]
      exact fw
    refine ⟨_, rfl, p, _, rfl, .inl (SqL.of gp), rfl, _, rfl, ?_⟩
    show if decide (V.int ((ys.length : Nat) : Int) = V.int 0) = true then _ else _
    cases cc : decide (V.int ((ys.length : Nat) : Int) = V.int 0) with
    | true =>
      have l0 : ys.length = 0 := by
        have := of_decide_eq_true cc
        injection this with this
        omega
      refine iteT ?_
      refine ⟨(by show 0 ≤ sizeLine; decide), fun q1 hq1 => ?_⟩
      have sq1 := same_upd (o := .tup []) hq1
      have rq1 : Rp K (upd H4 q1 (.tup [])) (.ref q1) (dRopes []) := .tup (SqT.of upd_same) (by show 0 ≤ 1000; decide) .nil
      generalize upd H4 q1 (.tup []) = H5 at sq1 rq1 ⊢
      refine ⟨_, rfl, (by show 0 ≤ sizeLine; decide), fun q2 hq2 => ?_⟩
      have sq2 := same_upd (o := .tup []) hq2
      have rq2 : Rp K (upd H5 q2 (.tup [])) (.ref q2) (dRopes []) := .tup (SqT.of upd_same) (by show 0 ≤ 1000; decide) .nil
      generalize upd H5 q2 (.tup []) = H6 at sq2 rq2 ⊢
      have rv6 := ((rp_show rv4).same sq1).same sq2
      refine ⟨v, .ref q2, dRopes [], n, rows, rfl, rv6, rq2, bkr, fun c => absurd c (by rw [isRopes_of h0 h10 (List.nil_sublist _)]; decide), fun L' e' _ z H7 s7 rz => ?_⟩
      have e2 : ([] : List Rope) = L' := by
        injection e' with e'
        exact (List.map_inj_right (f := dRope) fun a b h => dRope_inj h).mp e'
      subst e2
      rw [above_nil] at rz
      refine ⟨.ref q1, z, _, _, rfl, (rq1.same sq2).same s7, rz, noL_ropes _, deep_ropes _, fun b H8 s8 hb => ?_⟩
      rw [hb.mpr rfl]
      refine ⟨_, rfl, iteT ?_⟩
      have rv8 := (rv6.same s7).same s8
      refine ⟨_, rfl, (by show 0 ≤ sizeLine; decide), fun q3 hq3 => ?_⟩
      have sq3 := same_upd (o := .tup []) hq3
      have rq3 : Rp K (upd H8 q3 (.tup [])) (.ref q3) (.tuple []) := .tup (SqT.of upd_same) (by show 0 ≤ 1000; decide) .nil
      generalize upd H8 q3 (.tup []) = H9 at sq3 rq3 ⊢
      refine ⟨(by show 3 ≤ sizeLine; decide), fun q4 hq4 => ?_⟩
      have sq4 := same_upd (o := .tup [V.int 0, .int 1, .ref q3]) hq4
      have rq4 : Rp K (upd H9 q4 (.tup [V.int 0, .int 1, .ref q3])) (.ref q4) (.tuple [.int 0, .int 1, .tuple []]) := .tup (SqT.of upd_same) (by show 3 ≤ 1000; decide) (.cons (.int _) (.two (.int _) (rq3.same sq4)))
      have nor : isRope n rows (.tuple [.int 0, .int 1, .tuple []]) = false := no_rope fun lo hi A e h1 h2 h3 _ => by
        have hm : (((lo : Int), (hi : Int), []) : Rope) ∈ ropesL n rows := rope_mem.mpr ⟨lo, hi, rfl, rfl, h1, h2, h3, List.nil_sublist _⟩
        have := List.length_pos_of_mem hm
        omega
      refine ⟨2, v, .ref q4, .non, _, .none, n, rows, .str "rope", rfl, (rv8.same sq3).same sq4, rq4, .non, bkr, .r2 nor, fun H10 s10 => ⟨rfl, ?_⟩⟩
      exact k _
    | false =>
      have l0 : 0 < ys.length := by
        have := of_decide_eq_false cc
        refine Nat.pos_of_ne_zero fun z => this ?_
        rw [z]
        rfl
      refine iteF ?_
      refine fun U hU => ?_
      have sU := same_upd (o := KdO ropeK P w U []) hU
      have gU : upd H4 U (KdO ropeK P w U []) U = some (KdO ropeK P w U []) := upd_same
      have shU : Same H4 (hide U (upd H4 U (KdO ropeK P w U []))) := fun c u e => by
        have hne : c ≠ U := fun z => by rw [z, hU] at e; cases e
        rw [hide_ne hne]
        exact sU _ _ e
      have US : U ≠ S := free_ne st4 hU
      generalize upd H4 U (KdO ropeK P w U []) = H5 at sU gU shU ⊢
      refine ⟨_, rfl, p, rfl, ⟨_, sU.seq (SqL.of gp)⟩, for_list (K := K) (a := p) (xs := ys) (fun i σ Hx => ∃ (us : KDs Rope) (v6 : Option V), σ = [some (.ref a), some (.ref S), some v, some (.ref d), some (.ref p), some (.ref U), v6] ∧ Same H4 (hide U Hx) ∧ Hx U = some (KdO ropeK P w U us) ∧ us.length ≤ i ∧ (∀ e ∈ us, Rp K H4 (.ref e.1) (dRope e.2.1)) ∧ ∀ r ∈ (ropesL n rows).take i, ∃ q zs, kdGet us r = some (.ref q) ∧ SqL K (hide S (hide U Hx)) q zs ∧ RpAll K (hide S (hide U Hx)) zs ((piecesL n rows r).map dRope)) ⟨[], _, rfl, shU, gU, Nat.le_refl _, fun e he => (by cases he), fun r hr => (by cases hr)⟩ (fun i σ Hx _ ⟨_, _, _, sx, _⟩ => (sx.trans (hide_same _ _)).seq (SqL.of gp)) (fun i x σ Hx hx ⟨us, v6, e1, sx, gUx, lus, kk, vv⟩ => ?_) (fun σ Hx ⟨us, v6, e1, sx, gUx, lus, kk, vv⟩ => ?_)⟩
      · subst e1
        have sxx := sx.trans (hide_same U Hx)
        obtain ⟨dd, hd, rx⟩ := ry.get hx
        rw [List.getElem?_map] at hd
        obtain ⟨r, hr1, er⟩ := Option.map_eq_some_iff.mp hd
        subst er
        have hrm := List.mem_of_getElem? hr1
        obtain ⟨xa, xc, rfl, _, _⟩ := rp_rope rx
        have hli := (List.getElem?_eq_some_iff.mp hx).1
        refine ⟨_, rfl, _, rfl, d, .ref xa, n, rows, B, ks, r, rfl, hm4.same sxx, hB, hrm, rx.same sxx, fun q zs H6 s6 qn gq rz => ?_⟩
        have s46 := sxx.trans s6
        have gU6 := s6 _ _ gUx
        have qU : q ≠ U := fun z => by rw [z, gU6] at gq; cases gq
        have qS : q ≠ S := free_ne (st4.same sxx) qn
        have sx6 := sx.trans (hide_mono s6)
        obtain ⟨ts, eS⟩ := (st4.same sx6).atS
        refine ⟨_, rfl, _, rfl, U, xa, us, r, rfl, rfl, gU6, fun e he => (kk e he).same s46, Nat.lt_of_lt_of_le (by omega : us.length < 1000) (by decide), rx.same s46, ?_⟩
        refine ⟨kdPut us xa r (.ref q), _, rfl, by rw [hide_upd_self]; exact sx6, upd_same, by have := kd_len us xa r (.ref q); omega, fun e he => ?_, fun r' hr' => ?_⟩
        · rcases kd_mem he with ⟨y, hy, e1, e2⟩ | ⟨e1, e2⟩
          · rw [e1, e2]
            exact kk y hy
          · rw [e1, e2]
            exact rx
        · rw [hide_upd_self]
          by_cases c : r' = r
          · subst c
            refine ⟨q, zs, by rw [kd_get_put]; exact if_pos rfl, SqL.of (by rw [hide_ne qS, hide_ne qU]; exact gq), ?_⟩
            exact rpAll_hideL eS (noLs_ropes _) (rpAll_off (fun _ => off_ext gU6 (fun _ z => nomatch z)) (fun _ => off_ext gU6 (fun _ z => nomatch z)) rz)
          · rw [List.take_succ, hr1] at hr'
            rcases List.mem_append.mp hr' with hr' | hr'
            · obtain ⟨q', zs', h1, h2, h3⟩ := vv r' hr'
              have sm := hide_mono (S := S) (hide_mono (S := U) s6)
              exact ⟨q', zs', by rw [kd_get_put, if_neg c]; exact h1, sm.seq h2, h3.same sm⟩
            · exact absurd (by simpa using hr') c
      · subst e1
        rw [lys, List.take_length] at vv
        have sxx := sx.trans (hide_same U Hx)
        have mx := Mv.of st4 sxx
        have stx := mx.ok
        have pS : p ≠ S := free_ne m3.ok pn
        obtain ⟨ts, eS⟩ := st4.atS
        have sn : Seen K P w (hide S Hx) v p U n rows B ys us := ⟨mx.rp rv4, hB, mx.same.seq (SqL.of (by rw [hide_ne pS]; exact gp)), (rpAll_hideL eS (noLs_ropes _) ry).same mx.same, l0, by omega,
          by rw [hide_ne US]; exact gUx, fun e he => (rp_hide st4 (noL_rope _) (kk e he)).same mx.same, fun r hr => by
            obtain ⟨q, zs, h1, h2, h3⟩ := vv r hr
            have sm := hide_mono (S := S) (hide_same U Hx)
            exact ⟨q, zs, h1, sm.seq h2, h3.same sm⟩⟩
        have hmx := (hm4.hide st4).same mx.same
        refine ⟨_, rfl, _, rfl, _, rfl, _, rfl, S, v, p, U, n, rows, B, ys, us, rfl, stx, sn, fun H7 m7 => ⟨_, rfl, iteF ?_⟩⟩
        refine ⟨_, rfl, _, rfl, _, rfl, _, rfl, _, rfl, S, v, d, p, U, n, rows, B, ys, us, ks, rfl, m7.ok, sn.same m7.same, hmx.same m7.same, fun H8 m8 => ⟨_, rfl, iteF ?_⟩⟩
        have m78 := m7.trans m8
        refine ⟨_, rfl, _, rfl, _, rfl, _, rfl, S, v, p, U, n, rows, B, ys, us, rfl, m78.ok, sn.same m78.same, fun H9 m9 => ⟨_, rfl, iteF ?_⟩⟩
        have m79 := m78.trans m9
        have sn9 := sn.same m79.same
        refine ⟨_, rfl, _, rfl, _, rfl, _, rfl, _, rfl, _, rfl, p, _, rfl, .inl ((hide_same _ _).seq sn9.ropes), S, ((ys.length : Nat) : Int), rfl, m79.ok, by omega, fun r1 HA b0 b1 mA => ?_⟩
        have m7A := m79.trans mA
        obtain ⟨x, hx⟩ : ∃ y, ys[r1.toNat]? = some y := ⟨_, List.getElem?_eq_getElem (by omega)⟩
        have snA := sn.same m7A.same
        obtain ⟨r, hr, rx⟩ := snA.inn x (List.mem_of_getElem? hx)
        refine ⟨p, _, _, _, rfl, rfl, (hide_same _ _).seq snA.ropes, at_of (j := r1.toNat) (by omega) hx, ?_⟩
        exact ⟨S, v, x, d, n, rows, B, ks, r, rfl, m7A.ok, snA.book, hB, hmx.same m7A.same, hr, rx, fun H10 _ => k _⟩
end
end LK
namespace LK
open PySem PySem.Spec PyProof.Rows L2
/-- what is found of a def at the top -/
theorem dfn {K : PySem.W.Frag} {h : Heap} {mg : Str → Option Value} (X : K.In h) (G : h.Ns mainGlobals mg) {x : Str} {st : Stmt} {f : Addr} {oc : Value} {od an : Option Addr} {sl : Array (Option Value)} {kV dc pm cd ct : Value}
    (a : PySem.W.nsIn K mainGlobals x = some (some (.ref f))) (l : K.lookup f = some ⟨oc, od, .func (PySem.W.fnOf x x (defArgs st) (defBody st) (defScope st) .none kV dc pm an cd ct), sl⟩) (c : PySem.W.codeIn K cd x = true) (k : PySem.W.keepIn K (.ref f) = true) :
    ∃ f fd, mg x = some (.ref f) ∧ Fun K x x st f fd := ⟨f, _, PySem.W.mg_of X G a, fun_mk (st := st) l c k⟩
theorem exm_self {K : PySem.W.Frag} {S : Addr} (h1 : PySem.W.subIn K (.ref S) (.type "BaseException") = some true) (h2 : PySem.W.isClsIn K S = true) (h3 : PySem.W.typeIn K (.ref S) = some (.type "type")) (h4 : PySem.W.subIn K (.ref S) (.ref S) = some true) :
    PySem.W.exmOne K (.ref S) (.ref S) = some true := by
  have e1 : (PySem.W.subIn K (.ref S) (.type "BaseException") == some true) = true := by rw [h1] <;> rfl
  have e2 : ((PySem.W.clsIn K S).isSome && PySem.W.typeIn K (.ref S) == some (.type "type")) = true := by
    have h2' : (PySem.W.clsIn K S).isSome = true := h2
    rw [h2', h3] <;> rfl
  show (if (PySem.W.subIn K (.ref S) (.type "BaseException") == some true) = true then (if ((PySem.W.clsIn K S).isSome && PySem.W.typeIn K (.ref S) == some (.type "type")) = true then PySem.W.subIn K (.ref S) (.ref S) else none) else none) = some true
  rw [if_pos e1, if_pos e2]
  exact h4
/-- what is found of an exception class with its own __init__(self, word, at) -/
structure ExFact (K : PySem.W.Frag) (mg : Str → Option Value) (n q : Str) (st : Stmt) (C f : Addr) (fd : FuncData) : Prop where
  ox : OexC K C
  m : mg n = some (.ref C)
  i : PySem.W.findIn K (.ref C) "__init__" = some (some (.ref f))
  t : PySem.W.typeIn K (.ref f) = some (.type "function")
  F : Fun K "__init__" q st f fd
  nw : PySem.W.findIn K (.ref C) "word" = some none
  na : PySem.W.findIn K (.ref C) "at" = some none
  x : XfC K C
  e : PySem.W.exmOne K (.ref C) (.ref C) = some true
theorem exf {K : PySem.W.Frag} {h : Heap} {mg : Str → Option Value} (X : K.In h) (G : h.Ns mainGlobals mg) {n q : Str} {st : Stmt} {C f : Addr} {nm qn : Str} {N : Addr} {bs bm : List Value} {sn : List Str} {sub : List Value} {ab : Bool} {col : Option Bool} {dd : Option Addr} {m0 m1 m2 m3 m5 : Option Value}
    {oc : Value} {od an : Option Addr} {sl : Array (Option Value)} {kV dc pm cd ct : Value}
    (aC : PySem.W.nsIn K mainGlobals n = some (some (.ref C)))
    (xL : K.lookup C = some (excClassObj nm qn C N bs bm true sn sub ab col dd m0 m1 m2 m3 m5 "ValueError.__new__")) (rv : PySem.HandSPX.refsVE bm = true)
    (sa : PySem.W.findIn K (.ref C) "__setattr__" = some (some (.builtin "object.__setattr__"))) (ga : PySem.W.findIn K (.ref C) "__getattribute__" = some (some (.builtin "BaseException.__getattribute__"))) (gg : PySem.W.findIn K (.ref C) "__getattr__" = some none)
    (nw : PySem.W.findIn K (.ref C) "word" = some none) (na : PySem.W.findIn K (.ref C) "at" = some none)
    (a1 : PySem.W.findIn K (.ref C) "__init__" = some (some (.ref f))) (t1 : PySem.W.typeIn K (.ref f) = some (.type "function"))
    (l1 : K.lookup f = some ⟨oc, od, .func (PySem.W.fnOf "__init__" q (defArgs st) (defBody st) (defScope st) .none kV dc pm an cd ct), sl⟩) (c1 : PySem.W.codeIn K cd q = true) (k1 : PySem.W.keepIn K (.ref f) = true)
    (kC : PySem.W.keepIn K (.ref C) = true) (eC : PySem.W.subIn K (.ref C) (.type "BaseException") = some true) (tC : PySem.W.typeIn K (.ref C) = some (.type "type")) (hC : PySem.W.hasDictIn K C = true) (iC : PySem.W.isClsIn K C = true) (sC : PySem.W.subIn K (.ref C) (.ref C) = some true) :
    ∃ C f fd, ExFact K mg n q st C f fd :=
  ⟨C, f, _, ⟨⟨nm, qn, N, bs, bm, sn, sub, ab, col, dd, m0, m1, m2, m3, m5, xL, rv⟩, sa, eC, tC, kC⟩, PySem.W.mg_of X G aC, a1, t1, fun_mk (st := st) l1 c1 k1, nw, na, ⟨ga, gg, eC, hC⟩, exm_self eC iC tC sC⟩
theorem kit_ref {K : PySem.W.Frag} {D C : Addr} {b : Bool} (h0 : PySem.W.subIn K (.ref D) (.ref D) = some true) (h1 : PySem.W.isClsIn K C = true) (h2 : PySem.W.typeIn K (.ref C) = some (.type "type")) (h3 : PySem.W.subIn K (.ref D) (.ref C) = some b) : PySem.W.kitOne K (.ref D) (.ref C) = some b := by
  unfold PySem.W.kitOne
  by_cases e : ((Value.ref D == Value.ref C) = true)
  · rw [if_pos e]
    have : D = C := Value.ref.inj (beq_iff_eq.mp e)
    subst this
    rw [h0] at h3
    exact h3
  · rw [if_neg e]
    have e2 : ((PySem.W.clsIn K C).isSome && PySem.W.typeIn K (.ref C) == some (.type "type")) = true := by
      have h1' : (PySem.W.clsIn K C).isSome = true := h1
      rw [h1', h2] <;> rfl
    show (if ((PySem.W.clsIn K C).isSome && PySem.W.typeIn K (.ref C) == some (.type "type")) = true then PySem.W.subIn K (.ref D) (.ref C) else none) = some b
    rw [if_pos e2]
    exact h3
/-- what is found of NotUsable beside: its kin -/
structure ExKin (K : PySem.W.Frag) (mg : Str → Option Value) (C CB : Addr) : Prop where
  xc : ExcC K C
  mB : mg "BookError" = some (.ref CB)
  qB : PySem.W.kitOne K (.ref C) (.ref CB) = some true
theorem exk {K : PySem.W.Frag} {h : Heap} {mg : Str → Option Value} (X : K.In h) (G : h.Ns mainGlobals mg) {C CB : Addr} (aC : PySem.W.nsIn K mainGlobals "NotUsable" = some (some (.ref C))) (aB : PySem.W.nsIn K mainGlobals "BookError" = some (some (.ref CB)))
    (ga : PySem.W.findIn K (.ref C) "__getattribute__" = some (some (.builtin "BaseException.__getattribute__"))) (gg : PySem.W.findIn K (.ref C) "__getattr__" = some none) (eC : PySem.W.subIn K (.ref C) (.type "BaseException") = some true) (hC : PySem.W.hasDictIn K C = true)
    (ha : PySem.W.findIn K (.ref C) "__class__" = some (some (.builtin "object.__class__"))) (hn : PySem.W.specialIn K (.builtin "object.__class__") "__get__" = some (some (.builtin "getset_descriptor.__get__"))) (ht : PySem.W.takesIn K (.builtin "object.__class__") = some true) (hm : PySem.W.mroIn K C (.type "object") = some true)
    (sC : PySem.W.subIn K (.ref C) (.ref C) = some true) (iB : PySem.W.isClsIn K CB = true) (tB : PySem.W.typeIn K (.ref CB) = some (.type "type")) (sB : PySem.W.subIn K (.ref C) (.ref CB) = some true) :
    ∃ C CB, mg "NotUsable" = some (.ref C) ∧ ExKin K mg C CB :=
  ⟨C, CB, PySem.W.mg_of X G aC, ⟨ga, gg, eC, hC, ha, hn, ht, hm⟩, PySem.W.mg_of X G aB, kit_ref sC iB tB sB⟩
theorem walk {l : PySem.W.OpenLaw} {q : Program} {loose : List Str} {XP : (Str → Option Value) → Heap → Prop} {YP : World → Heap → Prop} {d : DefRec} {K : Params → PySem.W.Frag} (hn : l.most = some 63) (hdf : d.params.defaults = [])
    (hY : ∀ (w : World) (h : Heap), YP w h → (K w.params).In h)
    (F : ∀ (w : World) (mg : Str → Option Value) (fa : Addr) (h : Heap), (K w.params).In h → h.Ns mainGlobals mg → mg d.name = some (.ref fa) →
      ∃ fd : FuncData, (∀ (s : Shared) (u : Value), BindsTo s fd ⟨[u], []⟩ [("_law_script", u)]) ∧ ∀ base : Heap, (K w.params).In base → base.Ns mainGlobals mg → FnOk l.prog w (K w.params) mg base CX0 12 fa fd ["_law_script"] (spLaw (K w.params))) :
    PySem.W.WalkO q loose XP YP l.row.toRowW d [] (fun f vs => PySem.call f vs) :=
  L2.walk_of (n := 63) (k := 12) (x := "_law_script") (CX := fun _ => CX0) (sp := fun w => spLaw (K w.params)) hn (by decide) hdf ⟨rfl, by decide, by decide⟩ hY F (fun _ _ a ns hl _ hS => ⟨a, ns, rfl, hS, hl, fun _ => rfl⟩) fun _ _ _ _ _ z => z
theorem all_mk {P : Program} {w : World} {K : PySem.W.Frag} {mg : Str → Option Value} {fa : Addr} (hfa : mg ("law" : Str) = some (.ref fa))
    (h1 : ∃ f fd, mg ("is_integer" : Str) = some (.ref f) ∧ Fun K "is_integer" "is_integer" s_is_integer f fd)
    (h2 : ∃ f fd, mg ("is_number" : Str) = some (.ref f) ∧ Fun K "is_number" "is_number" s_is_number f fd)
    (h3 : ∃ f fd, mg ("is_below" : Str) = some (.ref f) ∧ Fun K "is_below" "is_below" s_is_below f fd)
    (h4 : ∃ f fd, mg ("is_rising" : Str) = some (.ref f) ∧ Fun K "is_rising" "is_rising" s_is_rising f fd)
    (h5 : ∃ f fd, mg ("are_below" : Str) = some (.ref f) ∧ Fun K "are_below" "are_below" s_are_below f fd)
    (h6 : ∃ f fd, mg ("is_lot" : Str) = some (.ref f) ∧ Fun K "is_lot" "is_lot" s_is_lot f fd)
    (h8 : ∃ f fd, mg ("are_tied" : Str) = some (.ref f) ∧ Fun K "are_tied" "are_tied" s_are_tied f fd)
    (h9 : ∃ f fd, mg ("is_tie" : Str) = some (.ref f) ∧ Fun K "is_tie" "is_tie" s_is_tie f fd)
    (h14 : ∃ f fd, mg ("need" : Str) = some (.ref f) ∧ Fun K "need" "need" s_need f fd)
    (h16 : ∃ f fd, mg ("mask_of" : Str) = some (.ref f) ∧ Fun K "mask_of" "mask_of" s_mask_of f fd)
    (h17 : ∃ f fd, mg ("things_of" : Str) = some (.ref f) ∧ Fun K "things_of" "things_of" s_things_of f fd)
    (h18 : ∃ f fd, mg ("near_masks" : Str) = some (.ref f) ∧ Fun K "near_masks" "near_masks" s_near_masks f fd)
    (h20 : ∃ f fd, mg ("ties_of" : Str) = some (.ref f) ∧ Fun K "ties_of" "ties_of" s_ties_of f fd)
    (h21 : ∃ f fd, mg ("between_in" : Str) = some (.ref f) ∧ Fun K "between_in" "between_in" s_between_in f fd)
    (h23 : ∃ f fd, mg ("is_rope" : Str) = some (.ref f) ∧ Fun K "is_rope" "is_rope" s_is_rope f fd)
    (h24 : ∃ f fd, mg ("is_ropes" : Str) = some (.ref f) ∧ Fun K "is_ropes" "is_ropes" s_is_ropes f fd)
    (h25 : ∃ f fd, mg ("middle_in" : Str) = some (.ref f) ∧ Fun K "middle_in" "middle_in" s_middle_in f fd)
    (h27 : ∃ f fd, mg ("things_in" : Str) = some (.ref f) ∧ Fun K "things_in" "things_in" s_things_in f fd)
    (h28 : ∃ f fd, mg ("cut_in" : Str) = some (.ref f) ∧ Fun K "cut_in" "cut_in" s_cut_in f fd)
    (h29 : ∃ f fd, mg ("is_cut" : Str) = some (.ref f) ∧ Fun K "is_cut" "is_cut" s_is_cut f fd)
    (h30 : ∃ f fd, mg ("is_piece" : Str) = some (.ref f) ∧ Fun K "is_piece" "is_piece" s_is_piece f fd)
    (h31 : ∃ f fd, mg ("cut_rope" : Str) = some (.ref f) ∧ Fun K "cut_rope" "cut_rope" s_cut_rope f fd)
    (h32 : ∃ f fd, mg ("pieces_of" : Str) = some (.ref f) ∧ Fun K "pieces_of" "pieces_of" s_pieces_of f fd)
    (h34 : ∃ f fd, mg ("lots_of" : Str) = some (.ref f) ∧ Fun K "lots_of" "lots_of" s_lots_of f fd)
    (h35 : ∃ f fd, mg ("ropes_of" : Str) = some (.ref f) ∧ Fun K "ropes_of" "ropes_of" s_ropes_of f fd)
    (h37 : ∃ f fd, mg ("above_of" : Str) = some (.ref f) ∧ Fun K "above_of" "above_of" s_above_of f fd)
    (h39 : ∃ f fd, mg ("_law_draws" : Str) = some (.ref f) ∧ Fun K "_law_draws" "_law_draws" s__law_draws f fd)
    (h40 : ∃ f fd, mg ("_law_take" : Str) = some (.ref f) ∧ Fun K "_law_take" "_law_take" s__law_take f fd)
    (h41 : ∃ f fd, mg ("_law_times" : Str) = some (.ref f) ∧ Fun K "_law_times" "_law_times" s__law_times f fd)
    (h42 : ∃ f fd, mg ("_law_hung" : Str) = some (.ref f) ∧ Fun K "_law_hung" "_law_hung" s__law_hung f fd)
    (h43 : ∃ f fd, mg ("_law_named" : Str) = some (.ref f) ∧ Fun K "_law_named" "_law_named" s__law_named f fd)
    (h44 : ∃ f fd, mg ("_law_make_book" : Str) = some (.ref f) ∧ Fun K "_law_make_book" "_law_make_book" s__law_make_book f fd)
    (h45 : ∃ f fd, mg ("_law_betweens" : Str) = some (.ref f) ∧ Fun K "_law_betweens" "_law_betweens" s__law_betweens f fd)
    (h46 : ∃ f fd, mg ("_law_all_ropes" : Str) = some (.ref f) ∧ Fun K "_law_all_ropes" "_law_all_ropes" s__law_all_ropes f fd)
    (h47 : ∃ f fd, mg ("_law_same" : Str) = some (.ref f) ∧ Fun K "_law_same" "_law_same" s__law_same f fd)
    (h48 : ∃ f fd, mg ("_law_grown_down" : Str) = some (.ref f) ∧ Fun K "_law_grown_down" "_law_grown_down" s__law_grown_down f fd)
    (h49 : ∃ f fd, mg ("_law_some" : Str) = some (.ref f) ∧ Fun K "_law_some" "_law_some" s__law_some f fd)
    (h50 : ∃ f fd, mg ("_law_pieces_right" : Str) = some (.ref f) ∧ Fun K "_law_pieces_right" "_law_pieces_right" s__law_pieces_right f fd)
    (h51 : ∃ f fd, mg ("_law_cuts_right" : Str) = some (.ref f) ∧ Fun K "_law_cuts_right" "_law_cuts_right" s__law_cuts_right f fd)
    (h52 : ∃ f fd, mg ("_law_upward" : Str) = some (.ref f) ∧ Fun K "_law_upward" "_law_upward" s__law_upward f fd)
    (h53 : ∃ f fd, mg ("_law_uppers_right" : Str) = some (.ref f) ∧ Fun K "_law_uppers_right" "_law_uppers_right" s__law_uppers_right f fd)
    (h54 : ∃ f fd, mg ("_law_refused" : Str) = some (.ref f) ∧ Fun K "_law_refused" "_law_refused" s__law_refused f fd)
    (h55 : ∃ f fd, mg ("_law_refusals" : Str) = some (.ref f) ∧ Fun K "_law_refusals" "_law_refusals" s__law_refusals f fd)
    (h56 : ∃ f fd, mg ("law" : Str) = some (.ref f) ∧ Fun K "law" "law" s_law f fd)
    (c13 : ∃ C f fd, ExFact K mg "NotUsable" "NotUsable.__init__" (inClass (topS 13) 0) C f fd)
    (kin : ∃ C CB, mg "NotUsable" = some (.ref C) ∧ ExKin K mg C CB)
    (le : ∃ C, mg "ListsError" = some (.ref C))
    (g_isinstance : mg ("isinstance" : Str) = none)
    (g_int : mg ("int" : Str) = none)
    (g_bool : mg ("bool" : Str) = none)
    (g_tuple : mg ("tuple" : Str) = none)
    (g_str : mg ("str" : Str) = none)
    (g_list : mg ("list" : Str) = none)
    (g_len : mg ("len" : Str) = none)
    (g_all : mg ("all" : Str) = none)
    (g_any : mg ("any" : Str) = none)
    (g_set : mg ("set" : Str) = none)
    (g_sorted : mg ("sorted" : Str) = none)
    (g_range : mg ("range" : Str) = none)
    (g_enumerate : mg ("enumerate" : Str) = none)
    (g_sum : mg ("sum" : Str) = none)
    (g_min : mg ("min" : Str) = none)
    (g_max : mg ("max" : Str) = none)
    (g_abs : mg ("abs" : Str) = none)
    (g_reversed : mg ("reversed" : Str) = none) :
    ∃ fd : FuncData, (∀ (s : Shared) (u : Value), BindsTo s fd ⟨[u], []⟩ [("_law_script", u)]) ∧ ∀ base : Heap, FnOk P w K mg base CX0 12 fa fd ["_law_script"] (spLaw K) := by
  obtain ⟨f1, d1, m1, F1⟩ := h1
  obtain ⟨f2, d2, m2, F2⟩ := h2
  obtain ⟨f3, d3, m3, F3⟩ := h3
  obtain ⟨f4, d4, m4, F4⟩ := h4
  obtain ⟨f5, d5, m5, F5⟩ := h5
  obtain ⟨f6, d6, m6, F6⟩ := h6
  obtain ⟨f8, d8, m8, F8⟩ := h8
  obtain ⟨f9, d9, m9, F9⟩ := h9
  obtain ⟨f14, d14, m14, F14⟩ := h14
  obtain ⟨f16, d16, m16, F16⟩ := h16
  obtain ⟨f17, d17, m17, F17⟩ := h17
  obtain ⟨f18, d18, m18, F18⟩ := h18
  obtain ⟨f20, d20, m20, F20⟩ := h20
  obtain ⟨f21, d21, m21, F21⟩ := h21
  obtain ⟨f23, d23, m23, F23⟩ := h23
  obtain ⟨f24, d24, m24, F24⟩ := h24
  obtain ⟨f25, d25, m25, F25⟩ := h25
  obtain ⟨f27, d27, m27, F27⟩ := h27
  obtain ⟨f28, d28, m28, F28⟩ := h28
  obtain ⟨f29, d29, m29, F29⟩ := h29
  obtain ⟨f30, d30, m30, F30⟩ := h30
  obtain ⟨f31, d31, m31, F31⟩ := h31
  obtain ⟨f32, d32, m32, F32⟩ := h32
  obtain ⟨f34, d34, m34, F34⟩ := h34
  obtain ⟨f35, d35, m35, F35⟩ := h35
  obtain ⟨f37, d37, m37, F37⟩ := h37
  obtain ⟨f39, d39, m39, F39⟩ := h39
  obtain ⟨f40, d40, m40, F40⟩ := h40
  obtain ⟨f41, d41, m41, F41⟩ := h41
  obtain ⟨f42, d42, m42, F42⟩ := h42
  obtain ⟨f43, d43, m43, F43⟩ := h43
  obtain ⟨f44, d44, m44, F44⟩ := h44
  obtain ⟨f45, d45, m45, F45⟩ := h45
  obtain ⟨f46, d46, m46, F46⟩ := h46
  obtain ⟨f47, d47, m47, F47⟩ := h47
  obtain ⟨f48, d48, m48, F48⟩ := h48
  obtain ⟨f49, d49, m49, F49⟩ := h49
  obtain ⟨f50, d50, m50, F50⟩ := h50
  obtain ⟨f51, d51, m51, F51⟩ := h51
  obtain ⟨f52, d52, m52, F52⟩ := h52
  obtain ⟨f53, d53, m53, F53⟩ := h53
  obtain ⟨f54, d54, m54, F54⟩ := h54
  obtain ⟨f55, d55, m55, F55⟩ := h55
  obtain ⟨f56, d56, m56, F56⟩ := h56
  obtain ⟨f13, f1013, d1013, E13⟩ := c13
  obtain ⟨C0, f12, mN, KN⟩ := kin
  obtain ⟨f11, mLE⟩ := le
  have eN : f13 = C0 := by
    have := E13.m.symm.trans mN
    cases this
    rfl
  subst eN
  have T : Txt K mg (fun i => if i = 1013 then f1013 else ([0, f1, f2, f3, f4, f5, f6, 0, f8, f9, 0, f11, f12, f13, f14, 0, f16, f17, f18, 0, f20, f21, 0, f23, f24, f25, 0, f27, f28, f29, f30, f31, f32, 0, f34, f35, 0, f37, 0, f39, f40, f41, f42, f43, f44, f45, f46, f47, f48, f49, f50, f51, f52, f53, f54, f55, f56].getD i 0)) (fun i => if i = 1013 then d1013 else ([d56, d1, d2, d3, d4, d5, d6, d56, d8, d9, d56, d56, d56, d56, d14, d56, d16, d17, d18, d56, d20, d21, d56, d23, d24, d25, d56, d27, d28, d29, d30, d31, d32, d56, d34, d35, d56, d37, d56, d39, d40, d41, d42, d43, d44, d45, d46, d47, d48, d49, d50, d51, d52, d53, d54, d55, d56].getD i d56)) := {
    g_isinstance := g_isinstance
    g_int := g_int
    g_bool := g_bool
    g_tuple := g_tuple
    g_str := g_str
    g_list := g_list
    g_len := g_len
    g_all := g_all
    g_any := g_any
    g_set := g_set
    g_sorted := g_sorted
    g_range := g_range
    g_enumerate := g_enumerate
    g_sum := g_sum
    g_min := g_min
    g_max := g_max
    g_abs := g_abs
    g_reversed := g_reversed
    m_is_integer := m1
    F_is_integer := F1
    m_is_number := m2
    F_is_number := F2
    m_is_below := m3
    F_is_below := F3
    m_is_rising := m4
    F_is_rising := F4
    m_are_below := m5
    F_are_below := F5
    m_is_lot := m6
    F_is_lot := F6
    m_are_tied := m8
    F_are_tied := F8
    m_is_tie := m9
    F_is_tie := F9
    m_need := m14
    F_need := F14
    m_mask_of := m16
    F_mask_of := F16
    m_things_of := m17
    F_things_of := F17
    m_near_masks := m18
    F_near_masks := F18
    m_ties_of := m20
    F_ties_of := F20
    m_between_in := m21
    F_between_in := F21
    m_is_rope := m23
    F_is_rope := F23
    m_is_ropes := m24
    F_is_ropes := F24
    m_middle_in := m25
    F_middle_in := F25
    m_things_in := m27
    F_things_in := F27
    m_cut_in := m28
    F_cut_in := F28
    m_is_cut := m29
    F_is_cut := F29
    m_is_piece := m30
    F_is_piece := F30
    m_cut_rope := m31
    F_cut_rope := F31
    m_pieces_of := m32
    F_pieces_of := F32
    m_lots_of := m34
    F_lots_of := F34
    m_ropes_of := m35
    F_ropes_of := F35
    m_above_of := m37
    F_above_of := F37
    m__law_draws := m39
    F__law_draws := F39
    m__law_take := m40
    F__law_take := F40
    m__law_times := m41
    F__law_times := F41
    m__law_hung := m42
    F__law_hung := F42
    m__law_named := m43
    F__law_named := F43
    m__law_make_book := m44
    F__law_make_book := F44
    m__law_betweens := m45
    F__law_betweens := F45
    m__law_all_ropes := m46
    F__law_all_ropes := F46
    m__law_same := m47
    F__law_same := F47
    m__law_grown_down := m48
    F__law_grown_down := F48
    m__law_some := m49
    F__law_some := F49
    m__law_pieces_right := m50
    F__law_pieces_right := F50
    m__law_cuts_right := m51
    F__law_cuts_right := F51
    m__law_upward := m52
    F__law_upward := F52
    m__law_uppers_right := m53
    F__law_uppers_right := F53
    m__law_refused := m54
    F__law_refused := F54
    m__law_refusals := m55
    F__law_refusals := F55
    m_law := m56
    F_law := F56
    ox_NotUsable := E13.ox
    m_NotUsable := E13.m
    i_NotUsable := E13.i
    t_NotUsable := E13.t
    F_init_NotUsable := E13.F
    n_NotUsable_word := E13.nw
    n_NotUsable_at := E13.na
    x_NotUsable := E13.x
    e_NotUsable := E13.e
    m_BookError := KN.mB
    m_ListsError := mLE
    q_NotUsable_BookError := KN.qB
    xc_NotUsable := KN.xc
  }
  have e : fa = f56 := by
    have := hfa.symm.trans m56
    cases this
    rfl
  subst e
  obtain ⟨oc, od, kV, doc, pm, an, cdv, ct, osl, e2, lk, hcd⟩ := F56.ex
  exact ⟨d56, fun s u => by rw [e2]; exact .of_eq rfl, fun base => ok_law T⟩
end LK
section
open PySem PySem.W PyProof.Rows
set_option maxRecDepth 100000
set_option maxHeartbeats 0
open_top lk_head for PySem.Challenge.rw_listbylist_k21_whole_pieces_by_end_ropes
end
open PySem PySem.W PyProof.Rows
set_option maxRecDepth 100000 in
set_option maxHeartbeats 0 in
theorem PySem.Challenge.cw_listbylist_k21_whole_pieces_by_end_ropes_holds : PySem.Challenge.rw_listbylist_k21_whole_pieces_by_end_ropes.Holds :=
  lk_head (by
    refine LK.walk (l := PySem.Challenge.rw_listbylist_k21_whole_pieces_by_end_ropes) rfl rfl (fun w h Y => PySem.W.kIn_of Y) ?F
    case F =>
      intro w mg fa h KX G hmg
      have h1 := LK.dfn (x := "is_integer") (st := LK.s_is_integer) KX G (by k_is) (by k_is) (by k_is) (by k_is)
      have h2 := LK.dfn (x := "is_number") (st := LK.s_is_number) KX G (by k_is) (by k_is) (by k_is) (by k_is)
      have h3 := LK.dfn (x := "is_below") (st := LK.s_is_below) KX G (by k_is) (by k_is) (by k_is) (by k_is)
      have h4 := LK.dfn (x := "is_rising") (st := LK.s_is_rising) KX G (by k_is) (by k_is) (by k_is) (by k_is)
      have h5 := LK.dfn (x := "are_below") (st := LK.s_are_below) KX G (by k_is) (by k_is) (by k_is) (by k_is)
      have h6 := LK.dfn (x := "is_lot") (st := LK.s_is_lot) KX G (by k_is) (by k_is) (by k_is) (by k_is)
      have h8 := LK.dfn (x := "are_tied") (st := LK.s_are_tied) KX G (by k_is) (by k_is) (by k_is) (by k_is)
      have h9 := LK.dfn (x := "is_tie") (st := LK.s_is_tie) KX G (by k_is) (by k_is) (by k_is) (by k_is)
      have h14 := LK.dfn (x := "need") (st := LK.s_need) KX G (by k_is) (by k_is) (by k_is) (by k_is)
      have h16 := LK.dfn (x := "mask_of") (st := LK.s_mask_of) KX G (by k_is) (by k_is) (by k_is) (by k_is)
      have h17 := LK.dfn (x := "things_of") (st := LK.s_things_of) KX G (by k_is) (by k_is) (by k_is) (by k_is)
      have h18 := LK.dfn (x := "near_masks") (st := LK.s_near_masks) KX G (by k_is) (by k_is) (by k_is) (by k_is)
      have h20 := LK.dfn (x := "ties_of") (st := LK.s_ties_of) KX G (by k_is) (by k_is) (by k_is) (by k_is)
      have h21 := LK.dfn (x := "between_in") (st := LK.s_between_in) KX G (by k_is) (by k_is) (by k_is) (by k_is)
      have h23 := LK.dfn (x := "is_rope") (st := LK.s_is_rope) KX G (by k_is) (by k_is) (by k_is) (by k_is)
      have h24 := LK.dfn (x := "is_ropes") (st := LK.s_is_ropes) KX G (by k_is) (by k_is) (by k_is) (by k_is)
      have h25 := LK.dfn (x := "middle_in") (st := LK.s_middle_in) KX G (by k_is) (by k_is) (by k_is) (by k_is)
      have h27 := LK.dfn (x := "things_in") (st := LK.s_things_in) KX G (by k_is) (by k_is) (by k_is) (by k_is)
      have h28 := LK.dfn (x := "cut_in") (st := LK.s_cut_in) KX G (by k_is) (by k_is) (by k_is) (by k_is)
      have h29 := LK.dfn (x := "is_cut") (st := LK.s_is_cut) KX G (by k_is) (by k_is) (by k_is) (by k_is)
      have h30 := LK.dfn (x := "is_piece") (st := LK.s_is_piece) KX G (by k_is) (by k_is) (by k_is) (by k_is)
      have h31 := LK.dfn (x := "cut_rope") (st := LK.s_cut_rope) KX G (by k_is) (by k_is) (by k_is) (by k_is)
      have h32 := LK.dfn (x := "pieces_of") (st := LK.s_pieces_of) KX G (by k_is) (by k_is) (by k_is) (by k_is)
      have h34 := LK.dfn (x := "lots_of") (st := LK.s_lots_of) KX G (by k_is) (by k_is) (by k_is) (by k_is)
      have h35 := LK.dfn (x := "ropes_of") (st := LK.s_ropes_of) KX G (by k_is) (by k_is) (by k_is) (by k_is)
      have h37 := LK.dfn (x := "above_of") (st := LK.s_above_of) KX G (by k_is) (by k_is) (by k_is) (by k_is)
      have h39 := LK.dfn (x := "_law_draws") (st := LK.s__law_draws) KX G (by k_is) (by k_is) (by k_is) (by k_is)
      have h40 := LK.dfn (x := "_law_take") (st := LK.s__law_take) KX G (by k_is) (by k_is) (by k_is) (by k_is)
      have h41 := LK.dfn (x := "_law_times") (st := LK.s__law_times) KX G (by k_is) (by k_is) (by k_is) (by k_is)
      have h42 := LK.dfn (x := "_law_hung") (st := LK.s__law_hung) KX G (by k_is) (by k_is) (by k_is) (by k_is)
      have h43 := LK.dfn (x := "_law_named") (st := LK.s__law_named) KX G (by k_is) (by k_is) (by k_is) (by k_is)
      have h44 := LK.dfn (x := "_law_make_book") (st := LK.s__law_make_book) KX G (by k_is) (by k_is) (by k_is) (by k_is)
      have h45 := LK.dfn (x := "_law_betweens") (st := LK.s__law_betweens) KX G (by k_is) (by k_is) (by k_is) (by k_is)
      have h46 := LK.dfn (x := "_law_all_ropes") (st := LK.s__law_all_ropes) KX G (by k_is) (by k_is) (by k_is) (by k_is)
      have h47 := LK.dfn (x := "_law_same") (st := LK.s__law_same) KX G (by k_is) (by k_is) (by k_is) (by k_is)
      have h48 := LK.dfn (x := "_law_grown_down") (st := LK.s__law_grown_down) KX G (by k_is) (by k_is) (by k_is) (by k_is)
      have h49 := LK.dfn (x := "_law_some") (st := LK.s__law_some) KX G (by k_is) (by k_is) (by k_is) (by k_is)
      have h50 := LK.dfn (x := "_law_pieces_right") (st := LK.s__law_pieces_right) KX G (by k_is) (by k_is) (by k_is) (by k_is)
      have h51 := LK.dfn (x := "_law_cuts_right") (st := LK.s__law_cuts_right) KX G (by k_is) (by k_is) (by k_is) (by k_is)
      have h52 := LK.dfn (x := "_law_upward") (st := LK.s__law_upward) KX G (by k_is) (by k_is) (by k_is) (by k_is)
      have h53 := LK.dfn (x := "_law_uppers_right") (st := LK.s__law_uppers_right) KX G (by k_is) (by k_is) (by k_is) (by k_is)
      have h54 := LK.dfn (x := "_law_refused") (st := LK.s__law_refused) KX G (by k_is) (by k_is) (by k_is) (by k_is)
      have h55 := LK.dfn (x := "_law_refusals") (st := LK.s__law_refusals) KX G (by k_is) (by k_is) (by k_is) (by k_is)
      have h56 := LK.dfn (x := "law") (st := LK.s_law) KX G (by k_is) (by k_is) (by k_is) (by k_is)
      have c13 := LK.exf (n := "NotUsable") (q := "NotUsable.__init__") (st := L2.inClass (LK.topS 13) 0) KX G (by k_is) (by k_is) (by decide +kernel) (by k_is) (by k_is) (by k_is) (by k_is) (by k_is) (by k_is) (by k_is) (by k_is) (by k_is) (by k_is) (by k_is) (by k_is) (by k_is) (by k_is) (by k_is) (by first | rfl | k_is)
      have kin := LK.exk KX G (by k_is) (by k_is) (by k_is) (by k_is) (by k_is) (by k_is) (by k_is) (by k_is) (by k_is) (by k_is) (by k_is) (by k_is) (by k_is) (by k_is)
      have le : ∃ C, mg "ListsError" = some (.ref C) := ⟨_, PySem.W.mg_of KX G (by k_is)⟩
      have g_isinstance := PySem.W.mg_none_of (n := "isinstance") KX G (by k_is)
      have g_int := PySem.W.mg_none_of (n := "int") KX G (by k_is)
      have g_bool := PySem.W.mg_none_of (n := "bool") KX G (by k_is)
      have g_tuple := PySem.W.mg_none_of (n := "tuple") KX G (by k_is)
      have g_str := PySem.W.mg_none_of (n := "str") KX G (by k_is)
      have g_list := PySem.W.mg_none_of (n := "list") KX G (by k_is)
      have g_len := PySem.W.mg_none_of (n := "len") KX G (by k_is)
      have g_all := PySem.W.mg_none_of (n := "all") KX G (by k_is)
      have g_any := PySem.W.mg_none_of (n := "any") KX G (by k_is)
      have g_set := PySem.W.mg_none_of (n := "set") KX G (by k_is)
      have g_sorted := PySem.W.mg_none_of (n := "sorted") KX G (by k_is)
      have g_range := PySem.W.mg_none_of (n := "range") KX G (by k_is)
      have g_enumerate := PySem.W.mg_none_of (n := "enumerate") KX G (by k_is)
      have g_sum := PySem.W.mg_none_of (n := "sum") KX G (by k_is)
      have g_min := PySem.W.mg_none_of (n := "min") KX G (by k_is)
      have g_max := PySem.W.mg_none_of (n := "max") KX G (by k_is)
      have g_abs := PySem.W.mg_none_of (n := "abs") KX G (by k_is)
      have g_reversed := PySem.W.mg_none_of (n := "reversed") KX G (by k_is)
      obtain ⟨fd, hb, hF⟩ := LK.all_mk (P := (PySem.Challenge.rw_listbylist_k21_whole_pieces_by_end_ropes).prog) (w := w) hmg h1 h2 h3 h4 h5 h6 h8 h9 h14 h16 h17 h18 h20 h21 h23 h24 h25 h27 h28 h29 h30 h31 h32 h34 h35 h37 h39 h40 h41 h42 h43 h44 h45 h46 h47 h48 h49 h50 h51 h52 h53 h54 h55 h56 c13 kin le g_isinstance g_int g_bool g_tuple g_str g_list g_len g_all g_any g_set g_sorted g_range g_enumerate g_sum g_min g_max g_abs g_reversed
      exact ⟨fd, hb, fun base _ _ => hF base⟩)
