import PyProof.Rows.All
import Wide.All
import OpenK.AllK
import Wide.FinOn
import HandS.ForMost
import HandS.ForExc
import HandS.ExcInit
import HandS.ExcField
import HandS.Star
import HandS.Defaults
import HandS.SetFor
import HandS.SetKeys
import HandS.IsInst
import HandS.Wide
import HandS.WideBits
import HandS.Conv
import HandS.DictComp
import HandS.Rev
import HandS.RevRange
import HandS.SortInts
import HandS.TupAny
import HandS.TupMul
import HandS.FStr
import HandS.Strs
import HandS.Flow
import KE.KIndexOf
import KE.SortData
import KE.GoesMore
import HandS.WordsDict
import PyProof.Rows.StrIntSpec
import PyProof.FString3
import HandS.Text
import PyProof.Rows.RegReprOcc
import PyProof.Rows.StrBin
import HandS.Style
import PyProof.Rows.SeqMore
import KE.KRevSl
import HandS.List
import HandS.Deep
import OpenK.KWalk
import PySem.Challenge.RW_listbylist_k01_whole_books_made_and_chan
set_option Elab.async false
set_option linter.all false
set_option maxRecDepth 100000
set_option maxHeartbeats 4000000
namespace LK
open PySem PySem.Spec PyProof.Rows L2

/-! ### data as it stands in the heap, each tuple and list of at most 1000 -/
mutual
inductive Rp (K : PySem.W.Frag) (H : Hp) : V → PyData → Prop
  | non : Rp K H .non .none
  | bl (b : Bool) : Rp K H (.bl b) (.bool b)
  | int (i : Int) : Rp K H (.int i) (.int i)
  | str (x : Str) : Rp K H (.str x) (.str x)
  | lst {a : Addr} {xs : List V} {ds : List PyData} : SqL K H a xs → xs.length ≤ 1000 → RpAll K H xs ds → Rp K H (.ref a) (.list ds)
  | tup {a : Addr} {xs : List V} {ds : List PyData} : SqT K H a xs → xs.length ≤ 1000 → RpAll K H xs ds → Rp K H (.ref a) (.tuple ds)
inductive RpAll (K : PySem.W.Frag) (H : Hp) : List V → List PyData → Prop
  | nil : RpAll K H [] []
  | cons {v : V} {vs : List V} {d : PyData} {ds : List PyData} : Rp K H v d → RpAll K H vs ds → RpAll K H (v :: vs) (d :: ds)
end

theorem seqT {K : PySem.W.Frag} {H H' : Hp} {a : Addr} {xs : List V} (e : Same H H') (h : SqT K H a xs) : SqT K H' a xs := by
  rcases h with (h | ⟨o, h⟩) | h
  · exact .inl (.inl (e _ _ h))
  · exact .inl (.inr ⟨o, e _ _ h⟩)
  · exact .inr h
mutual
theorem Rp.same {K : PySem.W.Frag} {H H' : Hp} (e : Same H H') : ∀ {d : PyData} {v : V}, Rp K H v d → Rp K H' v d
  | .none, _, h => by cases h; exact .non
  | .bool b, _, h => by cases h; exact .bl b
  | .int i, _, h => by cases h; exact .int i
  | .str x, _, h => by cases h; exact .str x
  | .list ds, _, h => by
    cases h with
    | lst s l r => exact .lst (e.seq s) l (RpAll.same e r)
  | .tuple ds, _, h => by
    cases h with
    | tup s l r => exact .tup (seqT e s) l (RpAll.same e r)
  | .dict _, _, h => by cases h
theorem RpAll.same {K : PySem.W.Frag} {H H' : Hp} (e : Same H H') : ∀ {ds : List PyData} {vs : List V}, RpAll K H vs ds → RpAll K H' vs ds
  | [], _, h => by cases h; exact .nil
  | d :: ds, _, h => by
    cases h with
    | cons a b => exact .cons (Rp.same e a) (RpAll.same e b)
end
mutual
theorem Rp.dp {K : PySem.W.Frag} {H : Hp} : ∀ {d : PyData} {v : V}, Rp K H v d → Dp K H v d
  | .none, _, h => by cases h; exact .non
  | .bool b, _, h => by cases h; exact .bl b
  | .int i, _, h => by cases h; exact .int i
  | .str x, _, h => by cases h; exact .str x
  | .list ds, _, h => by
    cases h with
    | lst s l r => exact .lst s (RpAll.dp r)
  | .tuple ds, _, h => by
    cases h with
    | tup s l r => exact .tup s (RpAll.dp r)
  | .dict _, _, h => by cases h
theorem RpAll.dp {K : PySem.W.Frag} {H : Hp} : ∀ {ds : List PyData} {vs : List V}, RpAll K H vs ds → DpAll K H vs ds
  | [], _, h => by cases h; exact .nil
  | d :: ds, _, h => by
    cases h with
    | cons a b => exact .cons (Rp.dp a) (RpAll.dp b)
end
theorem RpAll.length {K : PySem.W.Frag} {H : Hp} : ∀ {ds : List PyData} {vs : List V}, RpAll K H vs ds → vs.length = ds.length
  | [], _, h => by cases h; rfl
  | d :: ds, _, h => by
    cases h with
    | cons a b => rw [List.length_cons, List.length_cons, RpAll.length b]
theorem RpAll.get {K : PySem.W.Frag} {H : Hp} : ∀ {ds : List PyData} {vs : List V} {i : Nat} {v : V}, RpAll K H vs ds → vs[i]? = some v → ∃ d, ds[i]? = some d ∧ Rp K H v d
  | [], _, i, v, h, e => by cases h; simp at e
  | d :: ds, _, 0, v, h, e => by
    cases h with
    | cons a b => simp at e; subst e; exact ⟨d, rfl, a⟩
  | d :: ds, _, i + 1, v, h, e => by
    cases h with
    | cons a b =>
      obtain ⟨d', h1, h2⟩ := RpAll.get (i := i) (v := v) b (by simpa using e)
      exact ⟨d', by simpa using h1, h2⟩
theorem RpAll.getD {K : PySem.W.Frag} {H : Hp} {ds : List PyData} {vs : List V} {i : Nat} {d : PyData} (h : RpAll K H vs ds) (e : ds[i]? = some d) : ∃ v, vs[i]? = some v ∧ Rp K H v d := by
  have hl := h.length
  have hi : i < vs.length := by rw [hl]; exact (List.getElem?_eq_some_iff.mp e).1
  obtain ⟨d', h1, h2⟩ := h.get (i := i) (v := vs[i]) (by simp [hi])
  rw [e] at h1
  cases h1
  exact ⟨_, by simp [hi], h2⟩
theorem RpAll.ints {K : PySem.W.Frag} {H : Hp} : ∀ (ns : List Int), RpAll K H (ns.map V.int) (ns.map PyData.int)
  | [] => .nil
  | n :: ns => .cons (.int n) (RpAll.ints ns)
theorem RpAll.ofInts {K : PySem.W.Frag} {H : Hp} : ∀ {ns : List Int} {vs : List V}, RpAll K H vs (ns.map PyData.int) → vs = ns.map V.int
  | [], _, h => by cases h; rfl
  | n :: ns, _, h => by
    cases h with
    | cons a b => cases a; rw [RpAll.ofInts b]; rfl
theorem RpAll.app {K : PySem.W.Frag} {H : Hp} : ∀ {ds es : List PyData} {vs ws : List V}, RpAll K H vs ds → RpAll K H ws es → RpAll K H (vs ++ ws) (ds ++ es)
  | [], _, _, _, .nil, g => g
  | _ :: _, _, _, _, .cons a b, g => .cons a (RpAll.app b g)

/-! ### what kind data is of -/
def tyN : PyData → String
  | .none => "NoneType"
  | .bool _ => "bool"
  | .int _ => "int"
  | .str _ => "str"
  | .list _ => "list"
  | .tuple _ => "tuple"
  | .dict _ => "dict"
theorem Rp.ty {K : PySem.W.Frag} {H : Hp} {v : V} {d : PyData} (h : Rp K H v d) : TyX K H v (.type (tyN d)) := by
  cases h with
  | non => exact .base .non
  | bl b => exact .base (.bl b)
  | int i => exact .base (.int i)
  | str x => exact .base (.str x)
  | lst s l r =>
    rcases s with (s | ⟨o, s⟩) | ⟨o, its, n, s, c, _⟩
    · exact .base (.lst s)
    · exact .base (.frz s)
    · exact .kList s c
  | tup s l r =>
    rcases s with (s | ⟨o, s⟩) | ⟨o, its, n, s, c, _⟩
    · exact .base (.tup s)
    · exact .fTuple s
    · exact .kTuple s c
def isIntB : PyData → Bool
  | .int _ => true
  | .bool _ => true
  | _ => false
def isBoolB : PyData → Bool
  | .bool _ => true
  | _ => false
def isStrB : PyData → Bool
  | .str _ => true
  | _ => false
def isTupB : PyData → Bool
  | .tuple _ => true
  | _ => false
theorem isi_int {K : PySem.W.Frag} {H : Hp} {v : V} {d : PyData} (h : Rp K H v d) : PySem.W.kitOne K (.type (tyN d)) (.type "int") = some (isIntB d) := by
  cases h <;> (refine kit_ty ?_; simp only [tyN, isIntB, isBoolB, isStrB, isTupB]; decide +kernel)
theorem isi_bool {K : PySem.W.Frag} {H : Hp} {v : V} {d : PyData} (h : Rp K H v d) : PySem.W.kitOne K (.type (tyN d)) (.type "bool") = some (isBoolB d) := by
  cases h <;> (refine kit_ty ?_; simp only [tyN, isIntB, isBoolB, isStrB, isTupB]; decide +kernel)
theorem isi_str {K : PySem.W.Frag} {H : Hp} {v : V} {d : PyData} (h : Rp K H v d) : PySem.W.kitOne K (.type (tyN d)) (.type "str") = some (isStrB d) := by
  cases h <;> (refine kit_ty ?_; simp only [tyN, isIntB, isBoolB, isStrB, isTupB]; decide +kernel)
theorem isi_tuple {K : PySem.W.Frag} {H : Hp} {v : V} {d : PyData} (h : Rp K H v d) : PySem.W.kitOne K (.type (tyN d)) (.type "tuple") = some (isTupB d) := by
  cases h <;> (refine kit_ty ?_; simp only [tyN, isIntB, isBoolB, isStrB, isTupB]; decide +kernel)

/-! ### the mirror of kinds -/
def isInteger : PyData → Bool
  | .int _ => true
  | _ => false
def isNumber : PyData → Bool
  | .int i => decide (0 ≤ i)
  | _ => false
def isBelow (n : Int) : PyData → Bool
  | .int i => decide (0 ≤ i ∧ i < n)
  | _ => false
def rising : List Int → Bool
  | [] => true
  | [_] => true
  | a :: b :: r => decide (a < b) && rising (b :: r)
def areBelow (n : Int) : PyData → Bool
  | .tuple ds => ds.all (isBelow n)
  | _ => false
/-- the dInts of a tuple of dInts -/
def toInt : PyData → Int
  | .int i => i
  | _ => 0
def dInts : PyData → List Int
  | .tuple ds => ds.map toInt
  | _ => []
def isLot (n : Int) (d : PyData) : Bool := areBelow n d && rising (dInts d)
def areUnlike (n : Int) (d : PyData) : Bool := areBelow n d && decide (dInts d).Nodup
def isLine (n : Int) (d : PyData) : Bool := areUnlike n d && decide (((dInts d).length : Int) = n)
def dTup (ns : List Int) : PyData := .tuple (ns.map .int)
theorem dInts_tup (ns : List Int) : dInts (dTup ns) = ns := by
  unfold dInts dTup
  simp only [List.map_map]
  exact (List.map_congr_left fun i _ => rfl).trans (List.map_id ns)
theorem ints_all {n : Int} : ∀ {ds : List PyData}, ds.all (isBelow n) = true → ds = (ds.map toInt).map PyData.int
  | [], _ => rfl
  | d :: ds, h => by
    rw [List.all_cons, Bool.and_eq_true] at h
    obtain ⟨h1, h2⟩ := h
    cases d with
    | int i => rw [List.map_cons, List.map_cons, ← ints_all h2]; rfl
    | _ => exact absurd h1 (by simp [isBelow])
theorem areBelow_tup {n : Int} {d : PyData} (h : areBelow n d = true) : d = dTup (dInts d) := by
  cases d with
  | tuple ds => unfold dTup dInts; rw [← ints_all (n := n) h]
  | _ => exact absurd h (by simp [areBelow])
/-- a tuple of dInts, as it stands -/
def TupI (K : PySem.W.Frag) (H : Hp) (a : Addr) (ns : List Int) : Prop := SqT K H a (ns.map V.int) ∧ ns.length ≤ 1000
theorem TupI.rp {K : PySem.W.Frag} {H : Hp} {a : Addr} {ns : List Int} (h : TupI K H a ns) : Rp K H (.ref a) (dTup ns) := .tup h.1 (by rw [List.length_map]; exact h.2) (RpAll.ints ns)
theorem TupI.same {K : PySem.W.Frag} {H H' : Hp} {a : Addr} {ns : List Int} (e : Same H H') (h : TupI K H a ns) : TupI K H' a ns := ⟨seqT e h.1, h.2⟩
theorem Rp.tupI {K : PySem.W.Frag} {H : Hp} {v : V} {ns : List Int} (h : Rp K H v (dTup ns)) : ∃ a, v = .ref a ∧ TupI K H a ns := by
  generalize hd : dTup ns = d at h
  cases h with
  | @tup a xs ds s l r =>
    have e : ds = ns.map PyData.int := by
      unfold dTup at hd
      injection hd with hd
      exact hd.symm
    subst e
    have ex := r.ofInts
    subst ex
    exact ⟨a, rfl, s, by rw [List.length_map] at l; exact l⟩
  | _ => exact absurd hd (by simp [dTup])
theorem same_upd {H : Hp} {p : Addr} {o : HO} (n : H p = none) : Same H (upd H p o) := fun b u e => by rw [upd_ne (ne_of_none e n)]; exact e
theorem small_line {n : Nat} (h : n ≤ 1000) : n < sizeLine := small1000 h
/-- a list that is being filled by a comprehension: what stood ahead stands, at D the values so far -/
def Fill (H : Hp) (D : Addr) (H' : Hp) (xs : List V) : Prop := Same H H' ∧ H' D = some (.lst xs)
theorem Fill.start {H : Hp} {D : Addr} (n : H D = none) : Fill H D (upd H D (.lst [])) [] := ⟨same_upd n, upd_same⟩
theorem Fill.push {H H1 H2 : Hp} {D : Addr} {xs : List V} {y : V} (n : H D = none) (f : Fill H D H1 xs) (s : Same H1 H2) : Fill H D (upd H2 D (.lst (xs ++ [y]))) (xs ++ [y]) :=
  ⟨fun b o e => by rw [upd_ne (ne_of_none e n)]; exact s _ _ (f.1 _ _ e), upd_same⟩
theorem Fill.at {H H1 H2 : Hp} {D : Addr} {xs : List V} (f : Fill H D H1 xs) (s : Same H1 H2) : H2 D = some (.lst xs) := s _ _ f.2

/-! ### promises of kinds -/
section
variable (K : PySem.W.Frag)
def spB1 (g : PyData → Bool) : Sp := fun vs H Q _ => ∃ v d, vs = [v] ∧ Rp K H v d ∧ Q (.bl (g d)) H
def spIB0 (g : Int → PyData → Bool) : Sp := fun vs H Q _ => ∃ n v d, vs = [.int n, v] ∧ Rp K H v d ∧ Q (.bl (g n d)) H
def spIB (g : Int → PyData → Bool) : Sp := fun vs H Q _ => ∃ n v d, vs = [.int n, v] ∧ Rp K H v d ∧ ∀ H', Same H H' → Q (.bl (g n d)) H'
def spRising : Sp := fun vs H Q _ => ∃ a ns, vs = [.ref a] ∧ TupI K H a ns ∧ ∀ H', Same H H' → Q (.bl (rising ns)) H'
end

/-! ### the layer's rules with the written part named (within a comprehension the reading must not speak of the block) -/
section
variable {X : Cx}
def rLenS (K : PySem.W.Frag) : List V → Hp → VK → Prop := fun xs H Q => ∃ p ys, xs = [.ref p] ∧ (SqL K H p ys ∨ SqT K H p ys) ∧ Q (.int (ys.length : Nat)) H
def rTupOf (K : PySem.W.Frag) : List V → Hp → VK → Prop := fun xs H Q => ∃ p ys, xs = [.ref p] ∧ ((SqL K H p ys ∧ ∀ l, H l = none → Q (.ref l) (upd H l (.tup ys))) ∨ (SqT K H p ys ∧ Q (.ref p) H))
def rLstOf (K : PySem.W.Frag) : List V → Hp → VK → Prop := fun xs H Q => ∃ p ys, xs = [.ref p] ∧ (SqL K H p ys ∨ SqT K H p ys) ∧ ∀ l, H l = none → Q (.ref l) (upd H l (.lst ys))
theorem ixT (K : PySem.W.Frag) (h : X.K = K := by rfl) : IxR X (rIxT K) := h ▸ ix_tup
theorem ixL (K : PySem.W.Frag) (h : X.K = K := by rfl) : IxR X (rIxL K) := h ▸ ix_list
theorem inS (K : PySem.W.Frag) (h : X.K = K := by rfl) : OpR X (compareOp .In) (rIn K false) := h ▸ op_in_seq
theorem notInS (K : PySem.W.Frag) (h : X.K = K := by rfl) : OpR X (compareOp .NotIn) (rIn K true) := h ▸ op_notIn_seq
theorem lenS (K : PySem.W.Frag) (h : X.K = K := by rfl) : CallR X (.builtin "len") (rLenS K) := h ▸ call_len_seq
theorem slA (K : PySem.W.Frag) (h : X.K = K := by rfl) : SlR X (rSlA K) := h ▸ sl_tupA
theorem slL (K : PySem.W.Frag) (h : X.K = K := by rfl) : SlR X (rSlL K) := h ▸ sl_list
theorem allR (K : PySem.W.Frag) (hc : X.calm = true := by rfl) (h : X.K = K := by rfl) : CallR X (.builtin "all") (rAll K) := h ▸ cr_all hc
theorem anyR (K : PySem.W.Frag) (hc : X.calm = true := by rfl) (h : X.K = K := by rfl) : CallR X (.builtin "any") (rAny K) := h ▸ cr_any hc
theorem sumR (K : PySem.W.Frag) (hc : X.calm = true := by rfl) (h : X.K = K := by rfl) : CallR X (.builtin "sum") (rSum K) := h ▸ cr_sum hc
theorem isiR (K : PySem.W.Frag) (h : X.K = K := by rfl) : CallR X (.builtin "isinstance") (rIsi K) := h ▸ call_isi
theorem tupOf (K : PySem.W.Frag) (h : X.K = K := by rfl) : CallR X (.type "tuple") (rTupOf K) := h ▸ call_tuple_of
theorem lstOf (K : PySem.W.Frag) (h : X.K = K := by rfl) : CallR X (.type "list") (rLstOf K) := h ▸ call_list_of
theorem srtI (K : PySem.W.Frag) (h : X.K = K := by rfl) : CallR X (.builtin "sorted") (rSortedI K) := h ▸ cr_sortedI
theorem mtIndex (K : PySem.W.Frag) (h : X.K = K := by rfl) : MtR X "list.index" (rIndex K) := h ▸ mt_index
theorem piT (K : PySem.W.Frag) {tg l : Expr} {tl : TE} (hl : PE X l tl) (h : X.K = K := by rfl) : PI X tg l (iTup K tl) := h ▸ pi_tup hl
theorem piL (K : PySem.W.Frag) {tg l : Expr} {tl : TE} (hl : PE X l tl) (h : X.K = K := by rfl) : PI X tg l (iList K tl) := h ▸ pi_list hl
end

/-! ### data without lists stands, whatever a list becomes -/
mutual
def noL : PyData → Bool
  | .list _ => false
  | .tuple ds => noLs ds
  | _ => true
def noLs : List PyData → Bool
  | [] => true
  | d :: ds => noL d && noLs ds
end
theorem all_noL : ∀ {ds : List PyData}, (∀ d ∈ ds, noL d = true) → noLs ds = true
  | [], _ => rfl
  | d :: ds, h => by
    unfold noLs
    rw [h d (by simp), all_noL fun e he => h e (by simp [he])]
    rfl
mutual
theorem Rp.upd {K : PySem.W.Frag} {H : Hp} {D : Addr} {zs : List V} {o : HO} (hD : H D = some (.lst zs)) : ∀ {d : PyData} {v : V}, noL d = true → Rp K H v d → Rp K (L2.upd H D o) v d
  | .none, _, _, h => by cases h; exact .non
  | .bool b, _, _, h => by cases h; exact .bl b
  | .int i, _, _, h => by cases h; exact .int i
  | .str x, _, _, h => by cases h; exact .str x
  | .list ds, _, n, h => by simp [noL] at n
  | .tuple ds, _, n, h => by
    cases h with
    | tup s l r =>
      refine .tup ?_ l (RpAll.upd hD (by simpa [noL] using n) r)
      rcases s with (s | ⟨u, s⟩) | s
      · exact .inl (.inl (by rw [upd_ne (ne_of s hD (by intro z; cases z))]; exact s))
      · exact .inl (.inr ⟨u, by rw [upd_ne (ne_of s hD (by intro z; cases z))]; exact s⟩)
      · exact .inr s
  | .dict _, _, _, h => by cases h
theorem RpAll.upd {K : PySem.W.Frag} {H : Hp} {D : Addr} {zs : List V} {o : HO} (hD : H D = some (.lst zs)) : ∀ {ds : List PyData} {vs : List V}, noLs ds = true → RpAll K H vs ds → RpAll K (L2.upd H D o) vs ds
  | [], _, _, h => by cases h; exact .nil
  | d :: ds, _, n, h => by
    unfold noLs at n
    rw [Bool.and_eq_true] at n
    cases h with
    | cons a b => exact .cons (Rp.upd hD n.1 a) (RpAll.upd hD n.2 b)
end
/-! ### comprehensions whose elements are data without lists: over a tuple, a list, a range -/

theorem lcT {K : PySem.W.Frag} {a : Addr} {xs : List V} {g : TG} {tt : TT} {te : TE} {vs : List Nat} {σ : L2.St} {H : Hp} {D : Addr} {Qd : Hp → Prop} (p : Nat → Bool) (f : Nat → PyData) (hD : H D = none) (hx : SqT K H a xs) (hz : xs.length ≤ 1000) (hf : ∀ i, i < xs.length → p i = true → noL (f i) = true)
    (hs : ∀ (i : Nat) (x : V) (H1 : Hp), xs[i]? = some x → Same H H1 → ∀ (Q : VK) (Q' : Hp → Prop), (p i = true → ∀ y H2, Same H1 H2 → Rp K H2 y (f i) → Q y H2) → (p i = false → ∀ H2, Same H1 H2 → Q' H2) →
      g x (wipe σ vs) H1 fun σ2 H2 => wipe σ2 vs = wipe σ vs ∧ tt σ2 H2 fun b H3 => if b = true then te σ2 H3 Q else Q' H3)
    (hd : ∀ ys H1, Same H H1 → H1 D = some (.lst ys) → RpAll K H1 ys (((List.range xs.length).filter p).map f) → Qd H1) :
    ∃ W : Nat → Nat → Hp → Prop, (∃ m, W 0 m (upd H D (.lst []))) ∧ ∀ i m H, W i m H →
      ((Itt K a).stop i H ∧ Qd H) ∨ ((Itt K a).go i H ∧ ∃ Nx : Hp → Prop, (∀ H', Nx H' → ∃ m', m' < m ∧ W (i + 1) m' H') ∧ ∀ x H', (Itt K a).yld i H x H' → g x (wipe σ vs) H' fun σ2 H2 => wipe σ2 vs = wipe σ vs ∧ tt σ2 H2 fun b H3 =>
        if b = true then te σ2 H3 fun y H4 => ∃ acc, H4 D = some (.lst acc) ∧ acc.length < sizeLine ∧ Nx (upd H4 D (.lst (acc ++ [y]))) else Nx H3) := by
  refine lc_tup (fun i H1 => ∃ ys, Fill H D H1 ys ∧ RpAll K H1 ys (((List.range i).filter p).map f) ∧ ys.length ≤ i) ⟨[], Fill.start hD, .nil, Nat.le_refl _⟩ (fun i H1 _ ⟨ys, fl, _⟩ => seqT fl.1 hx)
    (fun i x H1 hi ⟨ys, fl, r, hy⟩ => ?_) (fun H1 ⟨ys, fl, r, hy⟩ => hd ys H1 fl.1 fl.2 r)
  have hlt : i < xs.length := (List.getElem?_eq_some_iff.mp hi).1
  refine hs i x H1 hi fl.1 _ _ (fun hp y H2 s2 ry => ⟨ys, fl.at s2, small1000 (by omega), ys ++ [y], fl.push hD s2, ?_, by rw [List.length_append, List.length_singleton]; omega⟩) (fun hp H2 s2 => ⟨ys, ⟨fl.1.trans s2, s2 _ _ fl.2⟩, ?_, by omega⟩)
  · rw [List.range_succ, List.filter_append, List.map_append]
    have e1 : ([i].filter p) = [i] := by simp [hp]
    rw [e1]
    refine RpAll.upd (fl.at s2) (all_noL fun d hd2 => ?_) ((r.same s2).app (.cons ry .nil))
    rcases List.mem_append.mp hd2 with z | z
    · obtain ⟨j, hj, rfl⟩ := List.mem_map.mp z
      have hj2 := List.mem_filter.mp hj
      exact hf j (by have := List.mem_range.mp hj2.1; omega) hj2.2
    · rw [List.map_cons, List.map_nil, List.mem_singleton] at z
      subst z
      exact hf i hlt hp
  · rw [List.range_succ, List.filter_append]
    have e1 : ([i].filter p) = [] := by simp [hp]
    rw [e1, List.append_nil]
    exact r.same s2

theorem lcL {K : PySem.W.Frag} {a : Addr} {xs : List V} {g : TG} {tt : TT} {te : TE} {vs : List Nat} {σ : L2.St} {H : Hp} {D : Addr} {Qd : Hp → Prop} (p : Nat → Bool) (f : Nat → PyData) (hD : H D = none) (hx : SqL K H a xs) (hz : xs.length ≤ 1000) (hf : ∀ i, i < xs.length → p i = true → noL (f i) = true)
    (hs : ∀ (i : Nat) (x : V) (H1 : Hp), xs[i]? = some x → Same H H1 → ∀ (Q : VK) (Q' : Hp → Prop), (p i = true → ∀ y H2, Same H1 H2 → Rp K H2 y (f i) → Q y H2) → (p i = false → ∀ H2, Same H1 H2 → Q' H2) →
      g x (wipe σ vs) H1 fun σ2 H2 => wipe σ2 vs = wipe σ vs ∧ tt σ2 H2 fun b H3 => if b = true then te σ2 H3 Q else Q' H3)
    (hd : ∀ ys H1, Same H H1 → H1 D = some (.lst ys) → RpAll K H1 ys (((List.range xs.length).filter p).map f) → Qd H1) :
    ∃ W : Nat → Nat → Hp → Prop, (∃ m, W 0 m (upd H D (.lst []))) ∧ ∀ i m H, W i m H →
      ((Itl K a).stop i H ∧ Qd H) ∨ ((Itl K a).go i H ∧ ∃ Nx : Hp → Prop, (∀ H', Nx H' → ∃ m', m' < m ∧ W (i + 1) m' H') ∧ ∀ x H', (Itl K a).yld i H x H' → g x (wipe σ vs) H' fun σ2 H2 => wipe σ2 vs = wipe σ vs ∧ tt σ2 H2 fun b H3 =>
        if b = true then te σ2 H3 fun y H4 => ∃ acc, H4 D = some (.lst acc) ∧ acc.length < sizeLine ∧ Nx (upd H4 D (.lst (acc ++ [y]))) else Nx H3) := by
  refine lc_list (fun i H1 => ∃ ys, Fill H D H1 ys ∧ RpAll K H1 ys (((List.range i).filter p).map f) ∧ ys.length ≤ i) ⟨[], Fill.start hD, .nil, Nat.le_refl _⟩ (fun i H1 _ ⟨ys, fl, _⟩ => fl.1.seq hx)
    (fun i x H1 hi ⟨ys, fl, r, hy⟩ => ?_) (fun H1 ⟨ys, fl, r, hy⟩ => hd ys H1 fl.1 fl.2 r)
  have hlt : i < xs.length := (List.getElem?_eq_some_iff.mp hi).1
  refine hs i x H1 hi fl.1 _ _ (fun hp y H2 s2 ry => ⟨ys, fl.at s2, small1000 (by omega), ys ++ [y], fl.push hD s2, ?_, by rw [List.length_append, List.length_singleton]; omega⟩) (fun hp H2 s2 => ⟨ys, ⟨fl.1.trans s2, s2 _ _ fl.2⟩, ?_, by omega⟩)
  · rw [List.range_succ, List.filter_append, List.map_append]
    have e1 : ([i].filter p) = [i] := by simp [hp]
    rw [e1]
    refine RpAll.upd (fl.at s2) (all_noL fun d hd2 => ?_) ((r.same s2).app (.cons ry .nil))
    rcases List.mem_append.mp hd2 with z | z
    · obtain ⟨j, hj, rfl⟩ := List.mem_map.mp z
      have hj2 := List.mem_filter.mp hj
      exact hf j (by have := List.mem_range.mp hj2.1; omega) hj2.2
    · rw [List.map_cons, List.map_nil, List.mem_singleton] at z
      subst z
      exact hf i hlt hp
  · rw [List.range_succ, List.filter_append]
    have e1 : ([i].filter p) = [] := by simp [hp]
    rw [e1, List.append_nil]
    exact r.same s2

theorem lcR {K : PySem.W.Frag} {lo : Int} {n : Nat} {g : TG} {tt : TT} {te : TE} {vs : List Nat} {σ : L2.St} {H : Hp} {D : Addr} {Qd : Hp → Prop} (p : Nat → Bool) (f : Nat → PyData) (hD : H D = none)  (hz : n ≤ 1000) (hf : ∀ i, i < n → p i = true → noL (f i) = true)
    (hs : ∀ (i : Nat)  (H1 : Hp), i < n → Same H H1 → ∀ (Q : VK) (Q' : Hp → Prop), (p i = true → ∀ y H2, Same H1 H2 → Rp K H2 y (f i) → Q y H2) → (p i = false → ∀ H2, Same H1 H2 → Q' H2) →
      g (.int (lo + i)) (wipe σ vs) H1 fun σ2 H2 => wipe σ2 vs = wipe σ vs ∧ tt σ2 H2 fun b H3 => if b = true then te σ2 H3 Q else Q' H3)
    (hd : ∀ ys H1, Same H H1 → H1 D = some (.lst ys) → RpAll K H1 ys (((List.range n).filter p).map f) → Qd H1) :
    ∃ W : Nat → Nat → Hp → Prop, (∃ m, W 0 m (upd H D (.lst []))) ∧ ∀ i m H, W i m H →
      ((Itr lo n).stop i H ∧ Qd H) ∨ ((Itr lo n).go i H ∧ ∃ Nx : Hp → Prop, (∀ H', Nx H' → ∃ m', m' < m ∧ W (i + 1) m' H') ∧ ∀ x H', (Itr lo n).yld i H x H' → g x (wipe σ vs) H' fun σ2 H2 => wipe σ2 vs = wipe σ vs ∧ tt σ2 H2 fun b H3 =>
        if b = true then te σ2 H3 fun y H4 => ∃ acc, H4 D = some (.lst acc) ∧ acc.length < sizeLine ∧ Nx (upd H4 D (.lst (acc ++ [y]))) else Nx H3) := by
  refine lc_range (fun i H1 => ∃ ys, Fill H D H1 ys ∧ RpAll K H1 ys (((List.range i).filter p).map f) ∧ ys.length ≤ i) ⟨[], Fill.start hD, .nil, Nat.le_refl _⟩ 
    (fun i  H1 hi ⟨ys, fl, r, hy⟩ => ?_) (fun H1 ⟨ys, fl, r, hy⟩ => hd ys H1 fl.1 fl.2 r)
  have hlt : i < n := hi
  refine hs i  H1 hi fl.1 _ _ (fun hp y H2 s2 ry => ⟨ys, fl.at s2, small1000 (by omega), ys ++ [y], fl.push hD s2, ?_, by rw [List.length_append, List.length_singleton]; omega⟩) (fun hp H2 s2 => ⟨ys, ⟨fl.1.trans s2, s2 _ _ fl.2⟩, ?_, by omega⟩)
  · rw [List.range_succ, List.filter_append, List.map_append]
    have e1 : ([i].filter p) = [i] := by simp [hp]
    rw [e1]
    refine RpAll.upd (fl.at s2) (all_noL fun d hd2 => ?_) ((r.same s2).app (.cons ry .nil))
    rcases List.mem_append.mp hd2 with z | z
    · obtain ⟨j, hj, rfl⟩ := List.mem_map.mp z
      have hj2 := List.mem_filter.mp hj
      exact hf j (by have := List.mem_range.mp hj2.1; omega) hj2.2
    · rw [List.map_cons, List.map_nil, List.mem_singleton] at z
      subst z
      exact hf i hlt hp
  · rw [List.range_succ, List.filter_append]
    have e1 : ([i].filter p) = [] := by simp [hp]
    rw [e1, List.append_nil]
    exact r.same s2

theorem RpAll.ofBools {K : PySem.W.Frag} {H : Hp} : ∀ {bs : List Bool} {vs : List V}, RpAll K H vs (bs.map PyData.bool) → vs = bs.map V.bl
  | [], _, h => by cases h; rfl
  | b :: bs, _, h => by
    cases h with
    | cons a r => cases a; rw [RpAll.ofBools r]; rfl
theorem filter_true {α : Type} (l : List α) : l.filter (fun _ => true) = l := List.filter_eq_self.mpr fun _ _ => rfl

theorem mapD {ns : List Int} {i : Nat} (h : i < ns.length) : (ns.map V.int)[i]? = some (.int (ns.getD i 0)) := by
  rw [List.getElem?_map, List.getElem?_eq_getElem h, List.getD_eq_getElem?_getD, List.getElem?_eq_getElem h]
  rfl
theorem range_succ_map {α : Type} (f : Nat → α) (n : Nat) : (List.range (n + 1)).map f = f 0 :: (List.range n).map fun j => f (j + 1) := by
  rw [List.range_succ_eq_map, List.map_cons, List.map_map]
  rfl
theorem all_range {α : Type} (p : α → Bool) (z : α) : ∀ l : List α, ((List.range l.length).map fun j => p (l.getD j z)).all id = l.all p
  | [] => rfl
  | x :: l => by
    rw [List.length_cons, range_succ_map, List.all_cons, List.all_cons, ← all_range p z l]
    rfl
theorem rising_all : ∀ ns : List Int, ((List.range (ns.length - 1)).map fun j => decide (ns.getD j 0 < ns.getD (j + 1) 0)).all id = rising ns
  | [] => rfl
  | [_] => rfl
  | a :: b :: r => by
    have ih := rising_all (b :: r)
    have e : (a :: b :: r).length - 1 = ((b :: r).length - 1) + 1 := by simp
    rw [e, range_succ_map, List.all_cons]
    show (decide (a < b) && _) = (decide (a < b) && rising (b :: r))
    rw [← ih]
    rfl
end LK
namespace LK
open PySem PySem.Spec PyProof.Rows L2
/-! ### tuple.index of ints -/
def rTIdx (K : PySem.W.Frag) : V → List V → Hp → VK → Prop := fun x xs H Q => ∃ (a : Addr) (ns : List Int) (k : Int), x = V.ref a ∧ xs = [.int k] ∧ SqT K H a (ns.map V.int) ∧ k ∈ ns ∧ Q (.int (ns.idxOf k : Nat)) H
theorem mt_tidx {X : Cx} (K : PySem.W.Frag) (hK : X.K = K := by rfl) : MtR X "tuple.index" (rTIdx K) := by
  subst hK
  intro pins s σ H x xs v us Q I rx rxs h
  obtain ⟨a, ns, k, rfl, rfl, hq, hk, q⟩ := h
  obtain ⟨its, rv, pl, hz⟩ := I.tuple hq
  cases rx
  cases rxs with
  | cons r rr =>
    cases rr
    obtain ⟨t, rfl⟩ := r
    exact PySem.SeqAt.tuple_index_ints (s := s) pl rv.ints hk ⟨.int (ns.idxOf k : Nat), H, I.tok _, ⟨_, rfl⟩, q⟩
/-! ### sorted(tuple of ints) -/
section
variable {prog : Program} {w : World} {A : Around} {E : Value → Shared → Prop} {s : Shared}
theorem collect_tup {l : Addr} {vs : List Value} {Q : List Value → Shared → Prop} (hl : s.heap.IsTuple l vs.toArray)
    (h : Q vs { s with heap := (s.heap.push (seqObj "list" #[] 0)).update s.heap.objs.size (Obj.mapSeq (· ++ vs.toArray)) }) (hsz : vs.length ≤ sizeLine := by size_fits) :
    wpAny (model prog w) A (collect (.ref l)) Q E s := by
  obtain ⟨o, ho, hc, n, hd⟩ := id hl
  unfold collect
  refine wpAny_bind (wpAny_runValue (codeAny_builtin entry_proto_collect' ?_))
  show wpAny _ _ (do again (.builtin "list.__iadd__" ⟨[← newList [], .ref l], []⟩)) _ _ s
  refine wpAny_bind (wpAny_newList (wpAny_pure ⟨Code.quiet_builtin _ (by decide +kernel), codeAny_builtin entry_list_iadd' ?_⟩))
  show wpAny _ _ (Builtin.List.listExtendWith (.ref s.heap.objs.size) (.ref l) (.ref s.heap.objs.size)) _ _ { s with heap := s.heap.push (seqObj "list" #[] 0) }
  unfold Builtin.List.listExtendWith
  have ho' : (s.heap.push (seqObj "list" #[] 0)).get? l = some o := Heap.get?_push_of_some _ ho
  refine wpAny_bind (wpAny_typeOf (T := "tuple") ⟨o, ho', hc⟩ ?_)
  have ht : (Value.type "tuple" == Value.type "tuple") = true := by rfl
  rw [if_pos (by rw [ht]; simp)]
  refine wpAny_bind (listItems_at ho' hd ?_)
  refine wpAny_bind (listItems_at (xs := #[]) (n := 0) (Heap.get?_push_size _ rfl) rfl ?_)
  rw [if_neg (by simp)]
  refine wpAny_bind (listUpdate_at (xs := #[]) (n := 0) (Heap.get?_push_size _ rfl) rfl ?_ (Nat.zero_le _) (by show (#[] ++ vs.toArray).size ≤ sizeLine + 1; simp only [Array.size_append, List.size_toArray, List.length_nil]; omega))
  refine wpAny_pure ?_
  show wpAny (model prog w) A (do
      let o ← load s.heap.objs.size
      match o.data with
      | .seq xs _ => pure xs.toList
      | _ => unsupported "internal:collect") Q E { s with heap := (s.heap.push (seqObj "list" #[] 0)).update s.heap.objs.size (Obj.mapSeq (· ++ vs.toArray)) }
  refine wpAny_bind (wpAny_load (get?_update_seq (Heap.get?_push_size _ rfl) _) ?_)
  show wpAny _ _ (pure ((#[] : Array Value) ++ vs.toArray).toList) Q E _
  rw [show ((#[] : Array Value) ++ vs.toArray).toList = vs by simp]
  exact wpAny_pure h
theorem sorted_ordT {l : Addr} {vs : List Value} {ltv : Value → Value → Bool} {Q : Value → Shared → Prop} (O : SrtO.Swo ltv) (hl : s.heap.IsTuple l vs.toArray) (hz : vs.length ≤ sizeLine)
    (hS : 2 ≤ vs.length → ∀ (h₁ : Heap) (a : Addr), h₁.get? a = some (seqObj "list" vs.toArray 0) → (∀ b o, s.heap.get? b = some o → b ≠ a ∧ h₁.get? b = some o) → SrtO.SortableO prog w A.in1.in1 { s with heap := h₁ } a vs ltv)
    (h : ∀ out : List Value, SrtO.Srtd ltv out → SrtO.Stb ltv out vs → Q (.ref (s.heap.objs.size + 1)) { s with heap := sortedAll s.heap vs out.toArray }) :
    wpAny (model prog w) A (call (.builtin "sorted") [.ref l]) Q E s := by
  refine Calls.call_function_entry kind_sorted plain_sorted entry_sorted (args_sorted1 _) ?_
  unfold Builtin.«sorted»
  refine wpAny_bind (m := checkCount "sorted" 1 1 _) (wpAny_pure ?_)
  refine wpAny_bind (collect_tup hl ?_ hz)
  refine wpAny_bind (wpAny_newList ?_ hz)
  have hsz : ((s.heap.push (seqObj "list" #[] 0)).update s.heap.objs.size (Obj.mapSeq (· ++ vs.toArray))).objs.size = s.heap.objs.size + 1 := by
    rw [Heap.size_update, size_push']
  have hoL : (((s.heap.push (seqObj "list" #[] 0)).update s.heap.objs.size (Obj.mapSeq (· ++ vs.toArray))).push (seqObj "list" vs.toArray 0)).get? (s.heap.objs.size + 1) = some (seqObj "list" vs.toArray 0) := by
    rw [← hsz]; exact Heap.get?_push_size _ rfl
  have keep : ∀ b o, s.heap.get? b = some o → b ≠ s.heap.objs.size + 1 ∧ (((s.heap.push (seqObj "list" #[] 0)).update s.heap.objs.size (Obj.mapSeq (· ++ vs.toArray))).push (seqObj "list" vs.toArray 0)).get? b = some o := fun b o q => by
    have hlt : b < s.heap.objs.size := Heap.lt_size q
    refine ⟨Nat.ne_of_lt (Nat.lt_succ_of_lt hlt), Heap.get?_push_of_some _ ?_⟩
    rw [Heap.get?_update_ne _ _ _ _ (Nat.ne_of_lt hlt)]
    exact Heap.get?_push_of_some _ q
  show wpAny _ _ _ _ _ { s with heap := ((s.heap.push (seqObj "list" #[] 0)).update s.heap.objs.size (Obj.mapSeq (· ++ vs.toArray))).push (seqObj "list" vs.toArray 0) }
  rw [hsz]
  refine wpAny_bind (wpAny_holding (wpAny_call_entry slot_list_sort ⟨_, hoL, rfl⟩ entry_list_sort (SrtO.list_sort_ord O hoL hz (fun h2 => hS h2 _ _ hoL keep) fun out hs hb => ⟨_, rfl, ?_⟩) (args_list_sort _)))
  exact wpAny_pure ⟨_, rfl, h out hs hb⟩
end
/-- sorted of a list or a tuple of ints -/
def rSrtA (K : PySem.W.Frag) : List V → Hp → VK → Prop := fun vs H Q => ∃ (a : Addr) (ns : List Int), vs = [V.ref a] ∧ SqT K H a (ns.map V.int) ∧
  ∀ (ns' : List Int) (p : Addr), ns'.Perm ns → ns'.Pairwise (· ≤ ·) → H p = none → Q (.ref p) (upd H p (.lst (ns'.map V.int)))
theorem srtT {X : Cx} (K : PySem.W.Frag) (hK : X.K = K := by rfl) : CallR X (.builtin "sorted") (rSrtA K) := by
  subst hK
  intro pins s σ H vs us Q I r h
  obtain ⟨a, ns, rfl, hs, q⟩ := h
  obtain ⟨its, rv, hl, hz⟩ := I.tuple hs
  rw [Vals.ref1 r]
  have hi := rv.ints
  refine sorted_ordT SrtO.swo_int hl (by rw [← rv.length]; exact hz) (fun h2 h₁ a' _ _ => SrtO.ints_sortable hi h2) fun out h1 h2 => ?_
  obtain ⟨k1, k2, k3⟩ := SrtO.ints_out hi h1 h2
  obtain ⟨ep, he'⟩ := PyProof.Rows.sortedAll_at s.heap its out.toArray
  have hlen : ((out.map SrtO.iv).map V.int).length ≤ sizeLine := by
    rw [List.length_map, k2.length_eq]
    rw [List.length_map] at hz
    exact hz
  exact ⟨.ref _, upd H (s.heap.objs.size + 1) (.lst ((out.map SrtO.iv).map V.int)), I.laid (t' := s.toks) (fun _ _ => PyProof.Rows.sortedAll_old) (Nat.le_succ _) ⟨hlen, out, ep, vals_of_ints k1, he'⟩, rfl, q _ _ k2 k3 (I.hok.fresh (Nat.le_succ _))⟩
/-! ### len(set(tuple of ints)) -/
theorem nodup_le : ∀ {l m : List Int}, l.Nodup → l ⊆ m → l.length ≤ m.length
  | [], m, _, _ => Nat.zero_le _
  | a :: l, m, n, h => by
    have hn := List.nodup_cons.mp n
    have ha : a ∈ m := h (by simp)
    have hs : l ⊆ m.erase a := fun z hz => (List.mem_erase_of_ne (fun e : z = a => hn.1 (by rw [← e]; exact hz))).mpr (h (by simp [hz]))
    have ih := nodup_le hn.2 hs
    rw [List.length_erase_of_mem ha] at ih
    have : 0 < m.length := List.length_pos_of_mem ha
    rw [List.length_cons]
    omega
theorem nodup_len {l m : List Int} (n : l.Nodup) (h1 : l ⊆ m) (h2 : m ⊆ l) : l.length = m.length ↔ m.Nodup := by
  constructor
  · intro e
    apply Classical.byContradiction
    intro hm
    have hc : ∃ a, 1 < m.count a := by
      apply Classical.byContradiction
      intro hx
      exact hm (List.nodup_iff_count.mpr fun a => by
        apply Classical.byContradiction
        intro z
        exact hx ⟨a, by omega⟩)
    obtain ⟨a, ha⟩ := hc
    have ham : a ∈ m := List.count_pos_iff.mp (by omega)
    have hs : l ⊆ m.erase a := fun z hz => by
      by_cases e2 : z = a
      · subst e2
        refine List.count_pos_iff.mp ?_
        rw [List.count_erase_self]
        omega
      · exact (List.mem_erase_of_ne e2).mpr (h1 hz)
    have ih := nodup_le n hs
    rw [List.length_erase_of_mem ham] at ih
    have : 0 < m.length := List.length_pos_of_mem ham
    omega
  · intro hm
    have a1 := nodup_le n h1
    have a2 := nodup_le hm h2
    omega
def tLenSetT (K : PySem.W.Frag) (ta : TE) : TE := fun σ H Q => ta σ H fun x H1 => ∃ (a : Addr) (ns : List Int), x = .ref a ∧ SqT K H1 a (ns.map V.int) ∧ ns.length ≤ 1000 ∧ ∀ c : Nat, (c = ns.length ↔ ns.Nodup) → Q (.int (c : Nat)) H1
theorem pe_lenSetT {X : Cx} {K : PySem.W.Frag} {a : Expr} {ta : TE} {p p2 q pos : Pos} (hc : X.calm = true) (hg : Gl X "len") (hm : X.mg "len" = none) (hg2 : Gl X "set") (hm2 : X.mg "set" = none) (ha : PE X a ta) (hK : X.K = K := by rfl)
    (na : starEach [a] X.env = (false, eval a X.env) :: starEach [] X.env := by rfl) : PE X (.Call (.Name "len" p) [.Call (.Name "set" p2) [a] [] q] [] pos) (tLenSetT K ta) := by
  subst hK
  refine ⟨fun pins s σ H Q I h => ?_⟩
  refine Call_ (ld_blt I hg hm boot_len ?_)
  refine PyProof.Rows.callWith_builtin1 (PyProof.Rows.args_cons ?_ rfl) rfl rfl
  refine Call_ (ld_blt I hg2 hm2 boot_set ?_)
  refine PyProof.Rows.callWith_type1 (PyProof.Rows.args_cons (thn (ha.run pins s σ H _ I h) fun v s1 ⟨x, H1, I1, r1, q1⟩ => PyProof.Rows.args_nil ?_) na) na rfl
  obtain ⟨l, ns, rfl, hq, hl, q1⟩ := q1
  cases r1
  obtain ⟨its, rv, pt, hz⟩ := I1.tuple hq
  have hi : IntsAre its.toArray.toList ns := rv.ints
  have hd := I1.ok.hd hc
  refine call_set_tupI ns hd pt hi (by unfold scanBound; omega) fun h' tk c R1 hcn k => ?_
  obtain ⟨o, es, ep, t, ho, hex, hdt, g, nd, hm2, hb, hf, hn, hr, hl2⟩ := R1
  refine PyProof.Rows.args_nil ?_
  have I2 : Inv X pins σ H1 { s1 with heap := h', toks := tk } := I1.kept fun b o e => k b o e
  have hnn : c = ns.length ↔ ns.Nodup := by
    have e0 : (es.toList.map keyOf).length = c := by rw [List.length_map, Array.length_toList, hn]
    have mem : ∀ z, z ∈ es.toList.map keyOf ↔ z ∈ ns := fun z => by
      have y := hm2 z
      rw [decide_eq_true_eq] at y
      exact y.symm
    have e1 : es.toList.map keyOf ⊆ ns := fun z hz => (mem z).mp hz
    rw [← e0]
    exact nodup_len nd e1 fun z hz => (mem z).mpr hz
  refine call_len_set ho hex hdt hf (by rw [hn]; have := hcn; omega) ⟨.int (c : Nat), H1, I2.tok _, ⟨_, by rw [hn]⟩, q1 c hnn⟩
/-! ### enumerate(tuple) -/
theorem meets_enumerate_newT (l : Addr) (items : Array Value) (n : Nat) (dct : Option Addr) (sl : Array (Option Value)) :
    Meets (Builtin.«enumerate.__new__» ⟨[.type "enumerate", .ref l], []⟩) (fun _ R s => s.heap.get? l = some { cls := .type "tuple", dict := dct, data := .seq items n, slots := sl } ∧
      R (.ok (.ret (.ref (s.heap.push { cls := .type "tuple_iterator", data := .fields #[.ref l, .int 0 0] }).objs.size)))
        { s with heap := (s.heap.push { cls := .type "tuple_iterator", data := .fields #[.ref l, .int 0 0] }).push { cls := .type "enumerate", data := .fields #[.none, .bool false, .ref s.heap.objs.size, rawInt 0, .none, .none] } }) :=
  .of_wp fun prog w A R s h => by
    obtain ⟨hp, g, d, tk, os⟩ := s; obtain ⟨hl, h⟩ := h
    have hsub := sub_enumerate
    have hL : Heap.IsTuple (Shared.heap ⟨hp, g, d, tk, os⟩) l items := ⟨_, hl, rfl, n, rfl⟩
    wp_walk using AutoSeq1.wpAny_loadPart' hl
    refine wpAny_stack_any fun st => wpAny_pure ?_
    split
    · rename_i c _ _ _ _ _
      cases (c == Value.type "enumerate")
      · wp_walk using AutoSeq1.wpAny_loadPart' hl, wpAny_pyIter_tuple hL
        exact ⟨_, rfl, h⟩
      · wp_walk using AutoSeq1.wpAny_loadPart' hl, wpAny_pyIter_tuple hL
        exact ⟨_, rfl, h⟩
    · wp_walk using AutoSeq1.wpAny_loadPart' hl, wpAny_pyIter_tuple hL
      exact ⟨_, rfl, h⟩
theorem call_enumerate_tup {prog : Program} {w : World} {A : Around} {E : Value → Shared → Prop} {s : Shared} {l : Addr} {items : Array Value} {Q : Value → Shared → Prop} (hL : s.heap.IsTuple l items)
    (h : ∀ h', IsEnum h' (s.heap.objs.size + 1) s.heap.objs.size 0 .none → h'.IsTupleIter s.heap.objs.size l 0 → h'.objs.size = s.heap.objs.size + 2 →
      (∀ b o, s.heap.get? b = some o → h'.get? b = some o) → Q (.ref (s.heap.objs.size + 1)) { s with heap := h' }) :
    wpAny (model prog w) A (call (.type "enumerate") [.ref l]) Q E s := by
  obtain ⟨⟨c, dct, dt, sl⟩, hl, hc, n, hd⟩ := hL
  replace hc : c = .type "tuple" := hc
  replace hd : dt = .seq items n := hd
  subst hc hd
  refine callType_new F.called_enumerate (by decide) (F.typeCall_enumerate_1 _) (F.newCall_enumerate_1 _) (fun obj => F.args_object_init_2 obj _) F.entry_enumerate_new
    (meets_enumerate_newT l items n dct sl) ⟨hl, ?_⟩
  have hz : (s.heap.push { cls := .type "tuple_iterator", data := .fields #[.ref l, .int 0 0] }).objs.size = s.heap.objs.size + 1 := Heap.size_push ..
  show _ ∧ _
  rw [hz]
  have he : IsEnum ((s.heap.push { cls := .type "tuple_iterator", data := .fields #[.ref l, .int 0 0] }).push
      { cls := .type "enumerate", data := .fields #[.none, .bool false, .ref s.heap.objs.size, rawInt 0, .none, .none] }) (s.heap.objs.size + 1) s.heap.objs.size 0 .none := by
    have := Heap.get?_push_size (s.heap.push { cls := .type "tuple_iterator", data := .fields #[.ref l, .int 0 0] })
      (o := { cls := .type "enumerate", data := .fields #[.none, .bool false, .ref s.heap.objs.size, rawInt 0, .none, .none] }) rfl
    rw [hz] at this; exact this
  refine ⟨⟨_, he, rfl⟩, h _ he ⟨_, Heap.get?_push_of_some _ (Heap.get?_push_size _ rfl), rfl, rfl⟩ (by rw [Heap.size_push, hz]) fun b o x => Heap.get?_push_of_some _ (Heap.get?_push_of_some _ x)⟩
def IteT (K : PySem.W.Frag) (a : Addr) : It :=
  ⟨fun i H => ∃ (xs : List V) (x : V), SqT K H a xs ∧ xs[i]? = some x, fun i H v H' => ∃ T x, v = .ref T ∧ H T = none ∧ H' = upd H T (.tup [.int (i : Nat), x]) ∧ ∀ xs, SqT K H a xs → xs[i]? = some x, fun i H => ∃ xs : List V, SqT K H a xs ∧ xs.length ≤ i⟩
theorem turn_enumT {P : Program} {w : World} {K : PySem.W.Frag} {elts : List Expr} {kk : Nat} {tpos : Pos} (a e it : Addr) :
    Turn P w K (.Tuple elts kk tpos) (IteT K a) [e, it] e (fun i h => (∃ old, IsEnum h e it ((i : Nat) : Int) old) ∧ h.IsTupleIter it a i ∧ e ≠ it ∧ a ≠ it) where
  mem := by simp
  obj := fun i h st b hb => by
    obtain ⟨⟨old, he⟩, ⟨o, ho, hc, hd⟩, _⟩ := st
    have e' : b = e ∨ b = it := by simpa using hb
    rcases e' with z | z
    · rw [z]; exact ⟨_, he, fun v q => nomatch q⟩
    · rw [z]; exact ⟨o, ho, fun v q => by rw [hd] at q; cases q⟩
  keep := fun i h h' st k => let ⟨⟨old, he⟩, hi, hne, hn2⟩ := st; ⟨⟨old, k e (by simp) _ he⟩, hi.at fun o q => k it (by simp) o q, hne, hn2⟩
  item := by
    intro X hP hw hK hc i pins s σ H E I hf st hg
    subst hP hw hK
    obtain ⟨⟨old, he⟩, hit, hne, hn2⟩ := st
    obtain ⟨xs, x, hq, hx⟩ := hg
    obtain ⟨its, rv, p, hz⟩ := I.tuple hq
    obtain ⟨u, hu, ru⟩ := rv.get hx
    have hel : e < s.heap.objs.size := Heap.lt_size he
    have hil : it < s.heap.objs.size := by obtain ⟨_, q, _⟩ := hit; exact Heap.lt_size q
    have hlt : i < its.toArray.size := by
      have z := (List.getElem?_eq_some_iff.mp hu).1
      simpa using z
    have hae : a ≠ e := fun z => by
      obtain ⟨o, ho, hc2, _⟩ := p
      have he2 : s.heap.get? e = some _ := he
      rw [z, he2] at ho
      have := Option.some.inj ho
      subst this
      exact absurd (show Value.type "enumerate" = Value.type "tuple" from hc2) (by decide)
    refine wpAny_pyNext_enum_itemD (Draws.tuple (A := X.A.in1) (I.ok.hd hc) it a hn2 its.toArray) he ⟨hit, p⟩ hlt hne (by simp [hne, hae.symm]) fun x' h' tk hx' ho hst' hT hsz hk => ?_
    obtain ⟨hit', p'⟩ := hst'
    have exu : x' = u := by
      have z : its.toArray[i]? = some u := by simpa using hu
      rw [z] at hx'
      exact (Option.some.inj hx').symm
    subst exu
    refine ⟨_, rfl, wpAny_letOwnedTupleGo_enum (s := { s with heap := h', toks := tk + 1 }) ho fun h'' he' sb => ?_⟩
    have hT2 : h''.get? s.heap.objs.size = some { cls := .type "tuple", data := .seq #[.int i tk, x'] } := (sb.2 _ (Nat.ne_of_gt hel)).trans hT
    have new : ObjOk X.prog X.w (upd H s.heap.objs.size (.tup [.int (i : Nat), x])) h'' s.heap.objs.size (.tup [.int (i : Nat), x]) :=
      ⟨by show 2 ≤ sizeLine; decide, [.int i tk, x'], .cons ⟨_, rfl⟩ (.cons ru .nil), ⟨_, hT2, rfl, _, rfl⟩⟩
    have I1 : Inv X pins σ (upd H s.heap.objs.size (.tup [.int (i : Nat), x])) { s with heap := h'', toks := tk + 1 } :=
      I.turnedNew (ch := [e, it]) (fun b ob hb q => (sb.2 b (fun z => hb (by simp [z]))).trans (hk b ob (fun z => hb (by simp [z])) (fun z => hb (by simp [z])) q)) hf (Nat.le_refl _) new
    refine ⟨.ref s.heap.objs.size, _, I1, rfl, ⟨_, x, rfl, I.hok.fresh (Nat.le_refl _), rfl, fun ys hy => by rw [I.tuple_inj hy hq]; exact hx⟩, ⟨⟨x', ?_⟩, hit'.at fun o q => (sb.2 it (Ne.symm hne)).trans q, hne, hn2⟩, fun b hb => ?_⟩
    · have e1 : ((i + 1 : Nat) : Int) = (i : Int) + 1 := by omega
      rw [e1]; exact he'
    · have hb' : b < s.heap.objs.size := by
        have e' : b = e ∨ b = it := by simpa using hb
        rcases e' with z | z
        · rw [z]; exact hel
        · rw [z]; exact hil
      rw [upd_ne (Nat.ne_of_lt hb')]
      exact (hf b hb).1
  done := by
    intro X hP hw hK hc i pins s σ H E I hf st hg
    subst hP hw hK
    obtain ⟨⟨old, he⟩, hit, hne, hn2⟩ := st
    obtain ⟨xs, hq, hx⟩ := hg
    obtain ⟨its, rv, p, hz⟩ := I.tuple hq
    obtain ⟨f0, f1, f2, f3, f4, f5⟩ := hf it (by simp)
    have hl := rv.length
    have hT : s.TypeIs (.ref e) "enumerate" := ⟨_, he, rfl⟩
    unfold pyNext
    refine wpAny_bind (wpAny_attempt (wpAny_callSpecial?_slot (name := Str.ofString "__next__") hT F.slot_enumerate_next
      (wpAny_call_entry F.slot_enumerate_next hT F.entry_enumerate_next ?_ (F.args_enumerate_next_1 _))))
    show wpAny _ _ (field (.ref e) 2 >>= _) _ _ _
    refine wpAny_bind (wpAny_field he rfl (x := .ref it) rfl ?_)
    refine wpAny_bind (wpAny_nextOf_tuple_end (I.ok.hd hc) hit p (by simp; omega) fun h' x he' hx' => ?_)
    obtain ⟨o, ho, hc3⟩ := hx'
    refine wpAny_bind (wpAny_isInstance (T := "StopIteration") (b := true) ⟨o, ho, hc3⟩ isSubtype_stop ?_)
    exact wpAny_pure ⟨rfl, I.turned (t' := s.toks) (fun b o hb q => he' b o hb q) f0 f1 f3 f4 f5⟩
  self := fun A i s Q E st h => let ⟨⟨_, he⟩, _⟩ := st; wpAny_pyIter_enum he h
def iEnumT (K : PySem.W.Frag) (ta : TA) : TI := fun σ H R => ta σ H fun vs H1 => ∃ a xs, vs = [.ref a] ∧ SqT K H1 a xs ∧ R (IteT K a) H1
theorem pi_enumT {X : Cx} {K : PySem.W.Frag} {e : Expr} {ta : TA} {p pos tpos : Pos} {elts : List Expr} {kk : Nat} (hg : Gl X "enumerate") (hm : X.mg "enumerate" = none) (ha : PA X [e] ta) (hK : X.K = K := by rfl) (hs : starEach [e] X.env = [(false, eval e X.env)] := by rfl) :
    PI X (.Tuple elts kk tpos) (.Call (.Name "enumerate" p) [e] [] pos) (iEnumT K ta) := by
  subst hK
  refine ⟨fun pins s σ H R I h => ?_⟩
  refine Call_ (ld_blt I hg hm boot_enumerate (PyProof.Rows.callWith_type1 (thn (ha.run pos pins s σ H _ I h) fun us s1 ⟨vs, H1, I1, r1, q1⟩ => ?_) hs rfl))
  obtain ⟨a, xs, ex, hq, q⟩ := q1
  subst ex
  cases r1 with
  | cons r rr =>
    cases rr
    cases r
    obtain ⟨its, rv, p', hz⟩ := I1.tuple hq
    have hal : a < s1.heap.objs.size := by obtain ⟨_, z, _⟩ := p'; exact Heap.lt_size z
    refine call_enumerate_tup p' fun h' he hit hsz hk => wpAny_pyIter_enum he ?_
    have I2 : Inv X pins σ H1 { s1 with heap := h' } := I1.kept (t' := s1.toks) hk
    refine ⟨s1.heap.objs.size + 1, [s1.heap.objs.size + 1, s1.heap.objs.size], _, _, H1, rfl, I2, turn_enumT a (s1.heap.objs.size + 1) s1.heap.objs.size, ⟨⟨.none, he⟩, hit, Nat.succ_ne_self _, Nat.ne_of_lt hal⟩, fun b hb => ?_, q⟩
    have e' : b = s1.heap.objs.size + 1 ∨ b = s1.heap.objs.size := by simpa using hb
    have hle : s1.heap.objs.size ≤ b := by
      rcases e' with z | z
      · rw [z]; exact Nat.le_add_right _ _
      · rw [z]; exact Nat.le_refl _
    exact I1.fpOk hle (I1.hok.fresh hle)
/-! ### f(k = e, ..): by keywords alone -/
section
variable {X : Cx} {CX : CXT} {k : Nat} {f : Addr} {fd : FuncData} {ps ks : List Str} {sp : Sp} {E : XK} {x : Str} {p pos : Pos} {g : List Value → List Value → List Value} {gV : List V → List V → List V} {kws : List Keyword} {tk : TA}
theorem pe_callKO (F : FnOk X.prog X.w X.K X.mg X.base CX k f fd ps sp) (hr : Room k X.A) (hg : Gl X x) (hm : X.mg x = some (.ref f)) (hk : PySem.W.keepIn X.K (.ref f) = true) (hb : KBinds X.K fd ps ks g gV) (hx : Passes CX X E)
    (hkw : PK X kws tk) (hall : (backToKw pos (keywordEach kws X.env)).all (·.1.isSome) = true := by rfl) (hks : (backToKw pos (keywordEach kws X.env)).filterMap (·.1) = ks := by rfl)
    (hdb : (x == ("__debug__" : Str)) = false := by decide)
    (hpl : ((backTo pos (starEach [] X.env)).any (·.1) || (backToKw pos (keywordEach kws X.env)).any (·.1.isNone)) = false := by rfl) :
    PE X (.Call (.Name x p) [] kws pos) (tCallK sp gV E tNil tk) := by
  refine ⟨fun pins s σ H Q I h => ?_⟩
  refine wpAny_Call_Name_kw (ld_glob I hg hm ?_ hdb)
  refine PySem.W.callWith_KW0 (h₀ := X.base) I.ok.mod.kin hk hall ?_ hpl
  have h : tk σ H fun zs H2 => sp (gV [] zs) H2 Q E := h
  refine thn (hkw.run pos pins s σ H _ I h) fun ws s2 ⟨zs, H2, I2, rz, q2⟩ => ⟨I2.kIn, ?_⟩
  rw [hks]
  exact run_fnk F hr hb hx I2 .nil rz q2
end

/-! ### books as data -/
def bookD (n : Int) (rows : List (List Int)) : PyData := .tuple [.int n, .tuple (rows.map dTup)]
def isListed (n : Int) (d : PyData) : Bool := isLot n d && decide (2 ≤ (dInts d).length)
def isBook : PyData → Bool
  | .tuple [.int n, .tuple ls] => decide (1 ≤ n) && ls.all (isListed n)
  | _ => false
def tiedB (rows : List (List Int)) (x y : Int) : Bool := rows.any fun r => decide (x ∈ r) && decide (y ∈ r)
def isTie (n : Int) (rows : List (List Int)) (d : PyData) : Bool := isLot n d && decide ((dInts d).length = 2) && tiedB rows ((dInts d).getD 0 0) ((dInts d).getD 1 0)
def tiedAll (rows : List (List Int)) : List Int → Bool
  | [] => true
  | [_] => true
  | a :: b :: r => tiedB rows a b && tiedAll rows (b :: r)
def isRow (n : Int) (rows : List (List Int)) (d : PyData) : Bool := isLot n d && decide (2 ≤ (dInts d).length) && tiedAll rows (dInts d)
theorem rp_book {K : PySem.W.Frag} {H : Hp} {v : V} {n : Int} {rows : List (List Int)} (h : Rp K H v (bookD n rows)) :
    ∃ b L xs, v = .ref b ∧ SqT K H b [.int n, .ref L] ∧ SqT K H L xs ∧ xs.length ≤ 1000 ∧ RpAll K H xs (rows.map dTup) := by
  unfold bookD at h
  cases h with
  | tup s l r =>
    cases r with
    | cons r1 r =>
      cases r1
      cases r with
      | cons r2 r =>
        cases r
        cases r2 with
        | tup s2 l2 r2 => exact ⟨_, _, _, rfl, s, s2, l2, r2⟩
theorem RpAll.row {K : PySem.W.Frag} {H : Hp} {xs : List V} {rows : List (List Int)} {i : Nat} {x : V} (r : RpAll K H xs (rows.map dTup)) (h : xs[i]? = some x) : ∃ ns a, rows[i]? = some ns ∧ x = .ref a ∧ TupI K H a ns := by
  obtain ⟨d, hd, rd⟩ := r.get h
  rw [List.getElem?_map] at hd
  cases e : rows[i]? with
  | none => rw [e] at hd; cases hd
  | some ns =>
    rw [e] at hd
    have ed := (Option.some.inj hd).symm
    subst ed
    obtain ⟨a, rfl, t⟩ := rd.tupI
    exact ⟨ns, a, rfl, rfl, t⟩
theorem inV_int (x : Int) : ∀ ns : List Int, inV (.int x) (ns.map V.int) = decide (x ∈ ns)
  | [] => rfl
  | n :: ns => by
    have ih := inV_int x ns
    unfold inV at ih ⊢
    rw [List.map_cons, List.any_cons, ih]
    have e : eqV (.int n) (.int x) = decide (n = x) := by
      unfold eqV
      rfl
    rw [e]
    by_cases c : n = x
    · simp [c]
    · have c' : ¬ x = n := fun z => c z.symm
      simp [c, c']
theorem flat_ints (ns : List Int) : (ns.map V.int).all flatV = true := by
  rw [List.all_map]
  exact List.all_eq_true.mpr fun _ _ => rfl
theorem any_range {α : Type} (p : α → Bool) (z : α) : ∀ l : List α, ((List.range l.length).map fun j => p (l.getD j z)).any id = l.any p
  | [] => rfl
  | x :: l => by
    rw [List.length_cons, range_succ_map, List.any_cons, List.any_cons, ← any_range p z l]
    rfl
theorem tiedAll_all (rows : List (List Int)) : ∀ ns : List Int, ((List.range (ns.length - 1)).map fun j => tiedB rows (ns.getD j 0) (ns.getD (j + 1) 0)).all id = tiedAll rows ns
  | [] => rfl
  | [_] => rfl
  | a :: b :: r => by
    have ih := tiedAll_all rows (b :: r)
    have e : (a :: b :: r).length - 1 = ((b :: r).length - 1) + 1 := by simp
    rw [e, range_succ_map, List.all_cons]
    show (tiedB rows a b && _) = (tiedB rows a b && tiedAll rows (b :: r))
    rw [← ih]
    rfl
section
variable (K : PySem.W.Frag)
def spTied : Sp := fun vs H Q _ => ∃ v x y n rows, vs = [v, .int x, .int y] ∧ Rp K H v (bookD n rows) ∧ ∀ H', Same H H' → Q (.bl (tiedB rows x y)) H'
def spBB0 (g : Int → List (List Int) → PyData → Bool) : Sp := fun vs H Q _ => ∃ v u d n rows, vs = [v, u] ∧ Rp K H v (bookD n rows) ∧ Rp K H u d ∧ Q (.bl (g n rows d)) H
def spBB (g : Int → List (List Int) → PyData → Bool) : Sp := fun vs H Q _ => ∃ v u d n rows, vs = [v, u] ∧ Rp K H v (bookD n rows) ∧ Rp K H u d ∧ ∀ H', Same H H' → Q (.bl (g n rows d)) H'
def spB (g : PyData → Bool) : Sp := fun vs H Q _ => ∃ v d, vs = [v] ∧ Rp K H v d ∧ ∀ H', Same H H' → Q (.bl (g d)) H'
end
end LK
namespace LK
open PySem PySem.Spec PyProof.Rows L2
theorem catA {X : Cx} (K : PySem.W.Frag) (h : X.K = K := by rfl) : OpR X (binaryOp .Add) (rCatA K) := h ▸ op_catA
/-! ### raising -/
/-- the exception class at C is raised with this word and place -/
def Rz (C : Addr) (E : XK) (H : Hp) (word : Str) (at_ : Int) : Prop := ∀ d H', Same H H' → H' d = some (.xd [("at", .int at_), ("word", .str word)]) → E (.ref C) (some d) H'
theorem Rz.same {C : Addr} {E : XK} {H H1 : Hp} {word : Str} {at_ : Int} (r : Rz C E H word at_) (s : Same H H1) : Rz C E H1 word at_ := fun d H' s' h => r d H' (s.trans s') h
/-- what C.__init__(self, word, at) leaves -/
def spInit2 (C : Addr) : Sp := fun vs H Q _ => ∃ a w t, vs = [.ref a, w, t] ∧ H a = some (exo a C none) ∧
  ∀ dx, H dx = none → dx ≠ a → Q .non (upd (upd (upd H dx (exd dx [("word", w)])) a (exo a C (some dx))) dx (exd dx [("at", t), ("word", w)]))
/-- the reading of raise C(word, at) -/
theorem raise2 {C : Addr} {σ : L2.St} {H : Hp} {ta : TA} {E : XK} {word : Str} {at_ : Int} (h : Rz C E H word at_) (ha : ∀ Q, Q [V.str word, V.int at_] H → ta σ H Q) :
    tMkO C (spInit2 C) [] ta σ H fun cls d H' => E cls d H' := by
  refine ha _ ⟨(by show 2 ≤ 1000; decide), fun a hn => ⟨a, .str word, .int at_, rfl, upd_same, fun dx hd hda => ⟨rfl, dx, _, ?_, upd_same, ?_, ?_⟩⟩⟩
  · rw [upd_ne (Ne.symm hda), upd_same]
  · rw [upd_ne hda] at hd
    exact hd
  · refine h dx _ (fun b o e => ?_) upd_same
    rw [upd_ne hda] at hd
    have hb : b ≠ a := ne_of_none e hn
    have hb2 : b ≠ dx := ne_of_none e hd
    rw [upd_ne hb2, del_ne hb, upd_ne hb2, upd_ne hb, upd_ne hb2, upd_ne hb]
    exact e
/-- what a def hands back or raises -/
def Out (K : PySem.W.Frag) (C : Addr) (Q : VK) (E : XK) (H : Hp) : Except (Str × Int) PyData → Prop
  | .ok d => ∀ v H', Same H H' → Rp K H' v d → Q v H'
  | .error (w, a) => Rz C E H w a
def spNeed (C : Addr) : Sp := fun vs H Q E => ∃ b word, vs = [.bl b, .str word] ∧ (b = true → Q .non H) ∧ (b = false → Rz C E H word (-1))
/-- a def of a book and one more value -/
def spX (K : PySem.W.Frag) (C : Addr) (ok : Int → List (List Int) → PyData → Prop) (g : Int → List (List Int) → PyData → Except (Str × Int) PyData) : Sp :=
  fun vs H Q E => ∃ v u d n rows, vs = [v, u] ∧ Rp K H v (bookD n rows) ∧ Rp K H u d ∧ ok n rows d ∧ Out K C Q E H (g n rows d)

/-! ### the mirror of bookchanges -/
def srt (l : List Int) : List Int := l.mergeSort fun a b => decide (a ≤ b)
theorem srt_perm (l : List Int) : (srt l).Perm l := List.mergeSort_perm l _
theorem srt_pw (l : List Int) : (srt l).Pairwise (· ≤ ·) := by
  have h := List.pairwise_mergeSort (le := fun a b : Int => decide (a ≤ b)) (fun a b c h1 h2 => by simp at *; omega) (fun a b => by simp; omega) l
  exact h.imp fun h => by simpa using h
theorem srt_eq {l ns : List Int} (p : ns.Perm l) (h : ns.Pairwise (· ≤ ·)) : ns = srt l :=
  List.Perm.eq_of_pairwise (fun x y _ _ h1 h2 => Int.le_antisymm h1 h2) h (srt_pw l) (p.trans (srt_perm l).symm)
theorem srt_length (l : List Int) : (srt l).length = l.length := (srt_perm l).length_eq
def keptRow (lot r : List Int) : List Int := (r.filter fun x => decide (x ∈ lot)).map fun x => ((lot.idxOf x : Nat) : Int)
def keptRows (lot : List Int) (rows : List (List Int)) : List (List Int) := (rows.map (keptRow lot)).filter fun r => decide (2 ≤ r.length)
def keptTo (n : Int) (rows : List (List Int)) (d : PyData) : Except (Str × Int) PyData :=
  if isLot n d && decide (0 < (dInts d).length) then .ok (bookD (dInts d).length (keptRows (dInts d) rows)) else .error ("lot", -1)
def withList (n : Int) (rows : List (List Int)) (d : PyData) : Except (Str × Int) PyData :=
  if areUnlike n d && decide (2 ≤ (dInts d).length) then .ok (bookD n (rows ++ [srt (dInts d)])) else .error ("things", -1)
def withoutList (n : Int) (rows : List (List Int)) (d : PyData) : Except (Str × Int) PyData :=
  if isBelow rows.length d then .ok (bookD n (rows.take (toInt d).toNat ++ rows.drop ((toInt d).toNat + 1))) else .error ("listed", -1)
/-- size and lists of a book -/
def bSize : PyData → Int
  | .tuple (.int n :: _) => n
  | _ => 0
def bRows : PyData → List (List Int)
  | .tuple [_, .tuple ls] => ls.map dInts
  | _ => []
def besideB (n : Int) (rows : List (List Int)) (d : PyData) : Except (Str × Int) PyData :=
  if isBook d then .ok (bookD (n + bSize d) (rows ++ (bRows d).map fun r => r.map fun x => n + x)) else .error ("other", -1)
theorem isBook_eq {d : PyData} (h : isBook d = true) : d = bookD (bSize d) (bRows d) := by
  match d, h with
  | .tuple [.int n, .tuple ls], h =>
    unfold isBook at h
    rw [Bool.and_eq_true] at h
    have h2 := h.2
    show PyData.tuple [.int n, .tuple ls] = .tuple [.int n, .tuple ((ls.map dInts).map dTup)]
    have : ls = (ls.map dInts).map dTup := by
      rw [List.map_map]
      have e : ∀ l : List PyData, l.all (isListed n) = true → l = l.map (dTup ∘ dInts) := by
        intro l
        induction l with
        | nil => intro _; rfl
        | cons a l ih =>
          intro hh
          rw [List.all_cons, Bool.and_eq_true] at hh
          rw [List.map_cons, ← ih hh.2]
          have : areBelow n a = true := by
            have := hh.1
            unfold isListed isLot at this
            simp only [Bool.and_eq_true] at this
            exact this.1.1
          show a :: l = dTup (dInts a) :: l
          rw [← areBelow_tup this]
      exact e ls h2
    rw [← this]
/-- the things of line[i] get the number i -/
def renum (line : List Int) (rows : List (List Int)) : List (List Int) := rows.map fun r => srt (r.map fun x => ((line.idxOf x : Nat) : Int))
def rebasedB (n : Int) (rows : List (List Int)) (d : PyData) : Except (Str × Int) PyData :=
  if isLine n d then .ok (bookD n (renum (dInts d) rows)) else .error ("line", -1)
def revRange (n : Nat) : List Int := (List.range n).map fun j => ((n - 1 - j : Nat) : Int)
def mirroredB (n : Int) (rows : List (List Int)) : PyData := bookD n (renum (revRange n.toNat) rows)
/-- the things of the rows are below n -/
def RowsIn (n : Int) (rows : List (List Int)) : Prop := ∀ r ∈ rows, ∀ x ∈ r, 0 ≤ x ∧ x < n

/-! ### answers that are the same each time -/
section
variable {K : PySem.W.Frag} {H : Hp} {Q : VK}
theorem catA_use {a b : Addr} {xs ys : List V} (ha : SqT K H a xs) (hb : SqT K H b ys) (hz : xs.length + ys.length ≤ 2000) (k : ∀ p H', Same H H' → SqT K H' p (xs ++ ys) → Q (.ref p) H') : rCatA K (.ref a) (.ref b) H Q := by
  have hs : (2000 : Nat) ≤ sizeLine := by decide
  refine ⟨a, b, xs, ys, rfl, rfl, ha, hb, Nat.le_trans hz hs, fun e => ?_, fun _ e => ?_, fun _ _ p hp => k p _ (same_upd hp) (SqT.of upd_same)⟩
  · subst e
    exact k b H (Same.refl _) hb
  · subst e
    refine k a H (Same.refl _) ?_
    rw [List.append_nil]
    exact ha
theorem tupL_use {a : Addr} {xs : List V} (ha : SqL K H a xs) (k : ∀ p H', Same H H' → SqT K H' p xs → Q (.ref p) H') : rTupOf K [.ref a] H Q :=
  ⟨a, xs, rfl, .inl ⟨ha, fun p hp => k p _ (same_upd hp) (SqT.of upd_same)⟩⟩
theorem lstT_use {a : Addr} {xs : List V} (ha : SqL K H a xs ∨ SqT K H a xs) (k : ∀ p H', Same H H' → H p = none → H' p = some (.lst xs) → Q (.ref p) H') : rLstOf K [.ref a] H Q :=
  ⟨a, xs, rfl, ha, fun p hp => k p _ (same_upd hp) hp upd_same⟩
theorem slA_use {a : Addr} {xs : List V} {lo hi : Option Int} (ha : SqT K H a xs) (k : ∀ p H', Same H H' → SqT K H' p (cutV xs lo hi) → Q (.ref p) H') : rSlA K (.ref a) lo hi H Q := by
  refine ⟨a, xs, rfl, ha, fun e => ?_, fun _ p hp => k p _ (same_upd hp) (SqT.of upd_same)⟩
  refine k a H (Same.refl _) ?_
  have : cutV xs lo hi = xs := by
    unfold cutV
    rw [e.1, e.2]
    simp
  rw [this]
  exact ha
theorem isi_use {c : String} {v : V} {d : PyData} (h : Rp K H v d) {r : Bool} (e : PySem.W.kitOne K (.type (tyN d)) (.type c) = some r) (k : Q (.bl r) H) : rIsi K [v, .ty c] H Q := ⟨v, .ty c, _, _, r, rfl, .ty _, h.ty, e, k⟩
end
theorem RpAll.one {K : PySem.W.Frag} {H : Hp} {v : V} {d : PyData} (h : Rp K H v d) : RpAll K H [v] [d] := .cons h .nil
theorem RpAll.two {K : PySem.W.Frag} {H : Hp} {v u : V} {d e : PyData} (h : Rp K H v d) (g : Rp K H u e) : RpAll K H [v, u] [d, e] := .cons h (.cons g .nil)
/-- a pair (n, L) that was just laid, L a tuple of rows -/
theorem rp_bookNew {K : PySem.W.Frag} {H : Hp} {L p : Addr} {xs : List V} {n : Int} {rows : List (List Int)} (hL : SqT K H L xs) (hz : xs.length ≤ 1000) (r : RpAll K H xs (rows.map dTup)) (hp : H p = none) :
    Rp K (upd H p (.tup [.int n, .ref L])) (.ref p) (bookD n rows) :=
  .tup (SqT.of upd_same) (by show 2 ≤ 1000; decide) (.two (.int n) ((Rp.tup hL hz r).same (same_upd hp)))
theorem noLs_rows : ∀ rows : List (List Int), noLs (rows.map dTup) = true
  | [] => rfl
  | r :: rows => by
    have h2 := noLs_rows rows
    have h1 : noL (dTup r) = true := by
      show noLs (r.map PyData.int) = true
      refine all_noL fun d hd => ?_
      obtain ⟨x, _, rfl⟩ := List.mem_map.mp hd
      rfl
    rw [List.map_cons]
    unfold noLs
    rw [h1, h2]
    rfl
theorem noL_dTup (r : List Int) : noL (dTup r) = true := by
  show noLs (r.map PyData.int) = true
  refine all_noL fun d hd => ?_
  obtain ⟨x, _, rfl⟩ := List.mem_map.mp hd
  rfl
theorem map_range {α β : Type} (f : α → β) (z : α) : ∀ l : List α, ((List.range l.length).map fun j => f (l.getD j z)) = l.map f
  | [] => rfl
  | x :: l => by
    rw [List.length_cons, range_succ_map, List.map_cons, ← map_range f z l]
    rfl
theorem filter_map_range {α β : Type} (p : α → Bool) (f : α → β) (z : α) : ∀ l : List α, (((List.range l.length).filter fun j => p (l.getD j z)).map fun j => f (l.getD j z)) = (l.filter p).map f
  | [] => rfl
  | x :: l => by
    have ih := filter_map_range p f z l
    rw [List.length_cons, List.range_succ_eq_map, List.filter_cons, List.filter_map, List.filter_cons]
    have e0 : (x :: l).getD 0 z = x := rfl
    have e1 : ((fun j => p ((x :: l).getD j z)) ∘ Nat.succ) = fun j => p (l.getD j z) := rfl
    rw [e0, e1]
    cases p x with
    | true =>
      simp only [if_true, List.map_cons, List.map_map]
      rw [← ih]
      rfl
    | false =>
      simp only [Bool.false_eq_true, if_false, List.map_map]
      rw [← ih]
      rfl

/-! ### tuples whose object is known to have no dict: what has .index -/
def DN (H : Hp) (v : V) : Prop := ∀ a, v = .ref a → ∃ o u, H a = some (.frz o u) ∧ o.dict = none
theorem DN.same {H H' : Hp} {v : V} (h : DN H v) (s : Same H H') : DN H' v := fun a e => by
  obtain ⟨o, u, h1, h2⟩ := h a e
  exact ⟨o, u, s _ _ h1, h2⟩
def rTupN (K : PySem.W.Frag) : List V → Hp → VK → Prop := fun xs H Q => ∃ p ys, xs = [.ref p] ∧ SqL K H p ys ∧ ∀ l o, H l = none → o.dict = none → Q (.ref l) (upd H l (.frz o (.tup ys)))
theorem tupN {X : Cx} (K : PySem.W.Frag) (hK : X.K = K := by rfl) : CallR X (.type "tuple") (rTupN K) := by
  subst hK
  intro pins s σ H xs us Q I r h
  obtain ⟨p, ys, rfl, hq, q⟩ := h
  obtain ⟨u, rfl, rx⟩ := vals1 r
  cases rx
  obtain ⟨its, r', pl, hz⟩ := I.list hq
  have hlen := r'.length
  refine call_tuple_list pl.isList (fun h' kp => ?_) (by simp only [List.size_toArray] <;> omega)
  have I1 : Inv X pins σ H { s with heap := h' } := I.kept (t' := s.toks) kp
  have I2 : Inv X pins σ (upd H h'.objs.size (.frz { cls := .type "tuple", data := .seq its.toArray } (.tup ys))) { s with heap := h'.push { cls := .type "tuple", data := .seq its.toArray } } :=
    I1.laid (t' := s.toks) (fun b o e => Heap.get?_push_of_some _ e) (Nat.le_refl _) (show ObjOk X.prog X.w _ _ _ (.frz _ (.tup ys)) from ⟨Heap.get?_push_size _ rfl, hz, its, r', IsTup.new _ _⟩)
  exact ⟨.ref h'.objs.size, _, I2, rfl, q _ _ (I1.hok.fresh (Nat.le_refl _)) rfl⟩
def tTidx (K : PySem.W.Frag) (to : TE) (t : TA) : TE := fun σ H Q => to σ H fun x H1 => ∃ (a : Addr) (ns : List Int), x = .ref a ∧ SqT K H1 a (ns.map V.int) ∧ DN H1 x ∧ t σ H1 fun vs H2 => ∃ k, vs = [.int k] ∧ SqT K H2 a (ns.map V.int) ∧ k ∈ ns ∧ Q (.int (ns.idxOf k : Nat)) H2
theorem pe_tidx {X : Cx} {K : PySem.W.Frag} {o e : Expr} {to : TE} {t : TA} {apos cpos : Pos} (ho : PE X o to) (ha : PA X [e] t) (hK : X.K = K := by rfl)
    (hbase : attributeBase o "index" X.env (eval o X.env) = eval o X.env := by rfl)
    (hfew : ((backTo cpos (starEach [e] X.env)).all (fun x => !x.1) && (backToKw cpos (keywordEach [] X.env)).all (fun x => x.1.isSome)
      && decide (([e] : List Expr).length + ([] : List Keyword).length + (if ([] : List Keyword).isEmpty then 0 else 1) < 30)) = true := by rfl)
    (hline : (apos.endLine == cpos.line) = true := by rfl) (hs : starEach [e] X.env = (false, eval e X.env) :: starEach [] X.env := by rfl) :
    PE X (.Call (.Attribute o "index" apos) [e] [] cpos) (tTidx K to t) := by
  subst hK
  refine ⟨fun pins s σ H Q I h => ?_⟩
  refine wpAny_Call_method_late hbase hfew hline rfl (thn (ho.run pins s σ H _ I h) fun v s1 ⟨x, H1, I1, r1, a, ns, ex, hq, dn, q1⟩ => ?_)
  subst ex
  cases r1
  obtain ⟨ob, u, hf, hdn⟩ := dn a rfl
  have hob : s1.heap.get? a = some ob := (I1.hok a _ hf).1
  obtain ⟨its, rv, pl, hz⟩ := I1.tuple hq
  obtain ⟨o2, ho2, hc2, _⟩ := id pl
  have ht : s1.TypeIs (.ref a) "tuple" := ⟨o2, ho2, hc2⟩
  refine ⟨"tuple", "tuple.index", PySem.F.plainAttrs_tuple, PySem.F.slot_tuple_index, PySem.F.type_tuple_index, ht, fun b e => by cases e; exact ⟨ob, hob, hdn⟩, ?_⟩
  have hA := ha.run cpos pins s1 σ H1 _ I1 q1
  rw [hs] at hA ⊢
  refine Calls.callWith_builtin rfl (Calls.evalArgs_plain ?_)
  exact thn hA fun us s2 ⟨vs, H2, I2, r2, k, ek, hq2, hk, q2⟩ => by
    subst ek
    exact mt_tidx X.K rfl pins s2 σ H2 (.ref a) [.int k] (.ref a) us Q I2 rfl r2 ⟨a, ns, k, rfl, rfl, hq2, hk, q2⟩
/-- as spX, the value a tuple that has .index where it is a lot -/
def spXN (K : PySem.W.Frag) (C : Addr) (ok : Int → List (List Int) → PyData → Prop) (g : Int → List (List Int) → PyData → Except (Str × Int) PyData) : Sp :=
  fun vs H Q E => ∃ v u d n rows, vs = [v, u] ∧ Rp K H v (bookD n rows) ∧ Rp K H u d ∧ (isLot n d = true → 0 < (dInts d).length → DN H u) ∧ ok n rows d ∧ Out K C Q E H (g n rows d)
theorem RpAll.len2 {K : PySem.W.Frag} {H : Hp} {xs : List V} {ds : List PyData} (r : RpAll K H xs ds) (h : xs.length = 2) : ∃ x y d e, xs = [x, y] ∧ ds = [d, e] ∧ Rp K H x d ∧ Rp K H y e := by
  cases r with
  | nil => simp at h
  | cons r1 r =>
    cases r with
    | nil => simp at h
    | cons r2 r =>
      cases r with
      | nil => exact ⟨_, _, _, _, rfl, rfl, r1, r2⟩
      | cons r3 r => simp at h
theorem isBook_len {ds : List PyData} (h : ds.length ≠ 2) : false = isBook (.tuple ds) := by
  match ds, h with
  | [], _ => rfl
  | [d1], _ => cases d1 <;> rfl
  | [_, _], h => exact absurd rfl h
  | d1 :: d2 :: _ :: _, _ => cases d1 <;> first | rfl | (cases d2 <;> rfl)
theorem isBook_notInt {d1 d2 : PyData} (z : ∀ i, d1 ≠ .int i) : false = isBook (.tuple [d1, d2]) := by
  cases d1 <;> first | rfl | exact absurd rfl (z _)
theorem isBook_low {n : Int} {d2 : PyData} (z : n < 1) : false = isBook (.tuple [.int n, d2]) := by
  have c3 : ¬ 1 ≤ n := by omega
  cases d2 <;> simp [isBook, c3]
theorem isBook_in {n : Int} {ls : List PyData} (z : ¬ n < 1) : ls.all (isListed n) = isBook (.tuple [.int n, .tuple ls]) := by
  show _ = (decide (1 ≤ n) && ls.all (isListed n))
  rw [decide_eq_true (show 1 ≤ n by omega)]
  rfl
theorem isBook_notTup {n : Int} {d2 : PyData} (z : ∀ l, d2 ≠ .tuple l) : false = isBook (.tuple [.int n, d2]) := by
  cases d2 <;> first | rfl | exact absurd rfl (z _)
/-! ### what a for walks: a list or a tuple -/
def iSeq (K : PySem.W.Frag) (tl : TE) : TI := fun σ H R => tl σ H fun x H1 => ∃ a, x = .ref a ∧ (((∃ xs, SqL K H1 a xs) ∧ R (Itl K a) H1) ∨ ((∃ xs, SqT K H1 a xs) ∧ R (Itt K a) H1))
theorem piS {X : Cx} (K : PySem.W.Frag) {tg l : Expr} {tl : TE} (hl : PE X l tl) (hK : X.K = K := by rfl) : PI X tg l (iSeq K tl) := by
  subst hK
  refine ⟨fun pins s σ H R I h => ?_⟩
  refine thn (hl.run pins s σ H _ I h) fun v s1 ⟨x, H1, I1, r1, q1⟩ => ?_
  obtain ⟨a, e, q1⟩ := q1
  subst e
  cases r1
  rcases q1 with ⟨⟨xs, hq⟩, q⟩ | ⟨⟨xs, hq⟩, q⟩
  · obtain ⟨its, rv, p, hz⟩ := I1.list hq
    refine wpAny_pyIter_list p.isList ?_
    refine ⟨s1.heap.objs.size, [s1.heap.objs.size], _, _, H1, rfl, I1.kept (t' := s1.toks) fun b o e => Heap.get?_push_of_some _ e, turn_list a _, ⟨_, Heap.get?_push_size _ rfl, rfl, rfl⟩, fun b hb => ?_, q⟩
    have e : b = s1.heap.objs.size := by simpa using hb
    subst e
    exact I1.fpOk (Nat.le_refl _) (I1.hok.fresh (Nat.le_refl _))
  · obtain ⟨its, rv, p, hz⟩ := I1.tuple hq
    refine wpAny_pyIter_tuple (show s1.heap.IsTuple a its.toArray from p) ?_
    refine ⟨s1.heap.objs.size, [s1.heap.objs.size], _, _, H1, rfl, I1.kept (t' := s1.toks) fun b o e => Heap.get?_push_of_some _ e, turn_tuple a _, ⟨_, Heap.get?_push_size _ rfl, rfl, rfl⟩, fun b hb => ?_, q⟩
    have e : b = s1.heap.objs.size := by simpa using hb
    subst e
    exact I1.fpOk (Nat.le_refl _) (I1.hok.fresh (Nat.le_refl _))
theorem mono_truth {K : PySem.W.Frag} {i : Nat} : ∀ (σ : L2.St) (H : Hp) (Q Q' : Bool → Hp → Prop), (∀ b H1, Q b H1 → Q' b H1) → (tVar i σ H fun x H' => ∃ k, TruV K x H' k ∧ Q k H') → (tVar i σ H fun x H' => ∃ k, TruV K x H' k ∧ Q' k H') :=
  fun _ _ _ _ hq ⟨v, e, k, t, q⟩ => ⟨v, e, k, t, hq _ _ q⟩
end LK
namespace LK
open PySem PySem.Spec PyProof.Rows L2
/-! ### bits -/
theorem and_odd (a : Nat) : (2 * a + 1) &&& (2 * a) = 2 * a := by
  apply Nat.eq_of_testBit_eq
  intro i
  cases i with
  | zero => simp [Nat.testBit_zero]
  | succ i =>
    rw [Nat.testBit_and, Nat.testBit_succ, Nat.testBit_succ]
    have e1 : (2 * a + 1) / 2 = a := by omega
    have e2 : (2 * a) / 2 = a := by omega
    rw [e1, e2, Bool.and_self]
theorem and_even (a b : Nat) : (2 * a) &&& (2 * b + 1) = 2 * (a &&& b) := by
  apply Nat.eq_of_testBit_eq
  intro i
  cases i with
  | zero => simp [Nat.testBit_zero]
  | succ i =>
    rw [Nat.testBit_and, Nat.testBit_succ, Nat.testBit_succ, Nat.testBit_succ]
    have e1 : (2 * b + 1) / 2 = b := by omega
    have e2 : (2 * a) / 2 = a := by omega
    have e3 : (2 * (a &&& b)) / 2 = a &&& b := by omega
    rw [e1, e2, e3, Nat.testBit_and]
/-- the least bit of a number above 0 -/
theorem low_bit : ∀ (m : Nat), 0 < m → ∃ t, m - (m &&& (m - 1)) = 2 ^ t ∧ m &&& (m - 1) ≤ m ∧ m.testBit t = true ∧ ∀ i, i < t → m.testBit i = false := by
  intro m
  induction m using Nat.strongRecOn with
  | ind m ih =>
    intro hm
    rcases Nat.mod_two_eq_zero_or_one m with h | h
    · obtain ⟨k, rfl⟩ : ∃ k, m = 2 * k := ⟨m / 2, by omega⟩
      obtain ⟨t, h1, h0, h2, h3⟩ := ih k (by omega) (by omega)
      have e : 2 * k - 1 = 2 * (k - 1) + 1 := by omega
      refine ⟨t + 1, ?_, ?_, ?_, ?_⟩
      · rw [e, and_even, Nat.pow_succ]
        omega
      · rw [e, and_even]
        omega
      · rw [Nat.testBit_succ]
        have e2 : (2 * k) / 2 = k := by omega
        rw [e2]
        exact h2
      · intro i hi
        cases i with
        | zero => simp [Nat.testBit_zero]
        | succ i =>
          rw [Nat.testBit_succ]
          have e2 : (2 * k) / 2 = k := by omega
          rw [e2]
          exact h3 i (by omega)
    · obtain ⟨k, rfl⟩ : ∃ k, m = 2 * k + 1 := ⟨m / 2, by omega⟩
      have e : 2 * k + 1 - 1 = 2 * k := by omega
      refine ⟨0, ?_, ?_, ?_, ?_⟩
      · rw [e, and_odd]
        simp
      · rw [e, and_odd]
        omega
      · simp [Nat.testBit_zero]
      · intro i hi
        omega
theorem and_neg {m : Nat} (hm : 0 < m) : ∃ t, Builtin.bitAnd (m : Int) (-(m : Int)) = ((2 ^ t : Nat) : Int) ∧ m.testBit t = true ∧ ∀ i, i < t → m.testBit i = false := by
  obtain ⟨t, h1, h0, h2, h3⟩ := low_bit m hm
  refine ⟨t, ?_, h2, h3⟩
  unfold Builtin.bitAnd
  have e1 : decide (0 ≤ (m : Int)) = true := decide_eq_true (by omega)
  have e2 : decide (0 ≤ -(m : Int)) = false := decide_eq_false (by omega)
  rw [e1, e2]
  have e3 : (Builtin.bitNot (-(m : Int))).toNat = m - 1 := by
    unfold Builtin.bitNot
    omega
  have e4 : ((m : Int)).toNat = m := by omega
  simp only [e3, e4]
  omega
theorem bits_pow (t : Nat) : Builtin.Int.intBits ((2 ^ t : Nat) : Int) = t + 1 := by
  unfold Builtin.Int.intBits
  have h : 0 < 2 ^ t := Nat.two_pow_pos t
  have : (((2 ^ t : Nat) : Int) == 0) = false := by
    rw [beq_eq_false_iff_ne]
    intro z
    have z2 : (2 ^ t : Nat) = 0 := by exact_mod_cast z
    omega
  rw [this]
  simp [Nat.log2_two_pow]
theorem xor_nat (a b : Nat) : Builtin.bitXor (a : Int) (b : Int) = ((a ^^^ b : Nat) : Int) := Bits.bitXor_pp (by omega) (by omega)
theorem or_nat (a b : Nat) : Builtin.bitOr (a : Int) (b : Int) = ((a ||| b : Nat) : Int) := Bits.bitOr_pp (by omega) (by omega)
theorem and_nat (a b : Nat) : Builtin.bitAnd (a : Int) (b : Int) = ((a &&& b : Nat) : Int) := by
  unfold Builtin.bitAnd
  have e1 : decide (0 ≤ (a : Int)) = true := decide_eq_true (by omega)
  have e2 : decide (0 ≤ (b : Int)) = true := decide_eq_true (by omega)
  rw [e1, e2]
  simp
/-- the bits below B, ascending -/
def bitL (B m : Nat) : List Nat := (List.range B).filter fun i => m.testBit i
theorem mem_bitL {B m i : Nat} : i ∈ bitL B m ↔ i < B ∧ m.testBit i = true := by
  unfold bitL
  rw [List.mem_filter, List.mem_range]
theorem bitL_pw (B m : Nat) : (bitL B m).Pairwise (· < ·) := List.Pairwise.filter _ List.pairwise_lt_range
theorem eq_of_lt {l m : List Nat} (hl : l.Pairwise (· < ·)) (hm : m.Pairwise (· < ·)) (h : ∀ x, x ∈ l ↔ x ∈ m) : l = m := by
  have n1 : l.Nodup := hl.imp fun h => Nat.ne_of_lt h
  have n2 : m.Nodup := hm.imp fun h => Nat.ne_of_lt h
  have p : l.Perm m := (List.perm_ext_iff_of_nodup n1 n2).mpr h
  exact List.Perm.eq_of_pairwise (fun x y _ _ h1 h2 => by omega) hl hm p
theorem bitL_zero (B : Nat) : bitL B 0 = [] := by
  unfold bitL
  simp
theorem testBit_lt {m B i : Nat} (h : m < 2 ^ B) (hi : m.testBit i = true) : i < B := by
  apply Classical.byContradiction
  intro z
  have : m.testBit i = false := Nat.testBit_lt_two_pow (Nat.lt_of_lt_of_le h (Nat.pow_le_pow_right (by decide) (by omega)))
  rw [this] at hi
  cases hi
theorem xor_pow {m t : Nat} (i : Nat) : (m ^^^ 2 ^ t).testBit i = (m.testBit i ^^ decide (t = i)) := by
  rw [Nat.testBit_xor, Nat.testBit_two_pow]
/-- the least bit taken away -/
theorem bitL_step {B m t : Nat} (hB : m < 2 ^ B) (h2 : m.testBit t = true) (h3 : ∀ i, i < t → m.testBit i = false) : bitL B m = t :: bitL B (m ^^^ 2 ^ t) := by
  refine eq_of_lt (bitL_pw B m) (List.pairwise_cons.mpr ⟨fun j hj => ?_, bitL_pw B _⟩) fun x => ?_
  · obtain ⟨h4, h5⟩ := mem_bitL.mp hj
    rw [xor_pow] at h5
    apply Classical.byContradiction
    intro z
    by_cases e : t = j
    · subst e
      rw [h2] at h5
      simp at h5
    · rw [h3 j (by omega)] at h5
      simp [e] at h5
  · rw [List.mem_cons, mem_bitL, mem_bitL, xor_pow]
    constructor
    · rintro ⟨h4, h5⟩
      by_cases e : x = t
      · exact .inl e
      · refine .inr ⟨h4, ?_⟩
        rw [h5]
        have : ¬ t = x := fun z => e z.symm
        simp [this]
    · rintro (rfl | ⟨h4, h5⟩)
      · exact ⟨testBit_lt hB h2, h2⟩
      · refine ⟨h4, ?_⟩
        by_cases e : t = x
        · subst e
          exact h2
        · simpa [e] using h5
theorem xor_lt {B m t : Nat} (hB : m < 2 ^ B) (h2 : m.testBit t = true) : m ^^^ 2 ^ t < 2 ^ B := by
  refine Nat.xor_lt_two_pow hB ?_
  exact Nat.pow_lt_pow_right (by decide) (testBit_lt hB h2)
/-- the mask of a list of things -/
def maskL (ns : List Int) : Nat := ns.foldl (fun m x => m ||| 2 ^ x.toNat) 0
theorem foldl_bit (i : Nat) : ∀ (ns : List Int) (m : Nat), (ns.foldl (fun m x => m ||| 2 ^ x.toNat) m).testBit i = (m.testBit i || decide (∃ x ∈ ns, x.toNat = i))
  | [], m => by simp
  | x :: ns, m => by
    rw [List.foldl_cons, foldl_bit i ns, Nat.testBit_or, Nat.testBit_two_pow]
    by_cases e : x.toNat = i
    · simp [e]
    · simp [e]
theorem maskL_bit {ns : List Int} (h : ∀ x ∈ ns, 0 ≤ x) (i : Nat) : (maskL ns).testBit i = decide ((i : Int) ∈ ns) := by
  unfold maskL
  rw [foldl_bit, Nat.zero_testBit, Bool.false_or]
  congr 1
  apply propext
  constructor
  · rintro ⟨x, hx, e⟩
    have := h x hx
    have e2 : (i : Int) = x := by omega
    rw [e2]
    exact hx
  · intro hx
    exact ⟨_, hx, by omega⟩
theorem lt_of_bits {m B : Nat} (h : ∀ i, m.testBit i = true → i < B) : m < 2 ^ B := by
  apply Classical.byContradiction
  intro z
  have hm : m ≠ 0 := by
    intro e
    subst e
    exact z (Nat.two_pow_pos B)
  have h1 : m.testBit m.log2 = true := Nat.testBit_log2 hm
  have h2 := h _ h1
  have h3 : m < 2 ^ (m.log2 + 1) := Nat.lt_log2_self
  have h4 : 2 ^ (m.log2 + 1) ≤ 2 ^ B := Nat.pow_le_pow_right (by decide) h2
  omega
end LK
namespace LK
open PySem PySem.Spec PyProof.Rows L2 StX
/-! ### for i, x in enumerate(tuple) -/
theorem for_enumT {K : PySem.W.Frag} {a : Addr} {xs : List V} {g : TG} {tb : TS} {D : Ends} {σ : L2.St} {H : Hp} (Pv : Nat → L2.St → Hp → Prop) (h0 : Pv 0 σ H) (hl : ∀ i σ H, i ≤ xs.length → Pv i σ H → SqT K H a xs)
    (hs : ∀ i x σ H T, xs[i]? = some x → Pv i σ H → H T = none → g (.ref T) σ (upd H T (.tup [.int (i : Nat), x])) fun σ2 H2 => tb { D with nx := Pv (i + 1), ct := Pv (i + 1), bk := D.nx } σ2 H2) (hd : ∀ σ H, Pv xs.length σ H → D.nx σ H) :
    ∃ W : Nat → Nat → L2.St → Hp → Prop, (∃ m, W 0 m σ H) ∧ ∀ i m σ H, W i m σ H →
      ((IteT K a).stop i H ∧ D.nx σ H) ∨ ((IteT K a).go i H ∧ ∃ N : L2.St → Hp → Prop, (∀ σ' H', N σ' H' → ∃ m', m' < m ∧ W (i + 1) m' σ' H') ∧ ∀ x H', (IteT K a).yld i H x H' → g x σ H' fun σ2 H2 => tb { D with nx := N, ct := N, bk := D.nx } σ2 H2) := by
  refine ⟨fun i m σ H => m = xs.length - i ∧ i ≤ xs.length ∧ Pv i σ H, ⟨xs.length, by simp, Nat.zero_le _, h0⟩, ?_⟩
  rintro i m σ H ⟨rfl, hi, p⟩
  have q := hl i σ H hi p
  by_cases hlt : i < xs.length
  · refine .inr ⟨⟨xs, xs[i], q, by simp [hlt]⟩, Pv (i + 1), fun σ' H' p' => ⟨xs.length - (i + 1), by omega, rfl, hlt, p'⟩, fun x H' y => ?_⟩
    obtain ⟨T, x', rfl, hT, rfl, e⟩ := y
    exact hs i x' σ H T (e xs q) p hT
  · have e : i = xs.length := by omega
    subst e
    exact .inl ⟨⟨xs, q, Nat.le_refl _⟩, hd _ _ p⟩
/-! ### calls of a def with a star parameter -/
section
variable {X : Cx} {CX : CXT} {k : Nat} {f : Addr} {sp : Sp} {E : XK} {x : Str} {p pos : Pos} {e : Expr} {es : List Expr} {t : TA}
theorem pe_callRR (F : FnR X.prog X.w X.K X.mg X.base CX k f sp) (hr : Room k X.A) (hg : Gl X x) (hm : X.mg x = some (.ref f)) (hk : PySem.W.keepIn X.K (.ref f) = true) (hx : Passes CX X E) (ha : PA X (e :: es) t) (hdb : (x == ("__debug__" : Str)) = false := by decide)
    (he : starEach (e :: es) X.env = (false, eval e X.env) :: starEach es X.env := by rfl) (hpl : (backTo pos (starEach es X.env)).any (·.1) = false := by rfl) :
    PE X (.Call (.Name x p) (e :: es) [] pos) (fun σ H Q => t σ H fun vs H1 => sp vs H1 Q E) := by
  refine ⟨fun pins s σ H Q I h => ?_⟩
  refine wpAny_Call_Name_kw (ld_glob I hg hm ?_ hdb)
  refine PySem.W.callWith_K (h₀ := X.base) I.ok.mod.kin hk (thn (ha.run pos pins s σ H _ I h) fun us s1 ⟨vs, H1, I1, r, q⟩ => ⟨I1.kIn, ?_⟩) he hpl
  exact wpAny_call (run_fnR F hr hx I1 r q)
/-- a promise of f(k = e), f with one parameter k and a star parameter -/
def FnK1 (P : Program) (w : World) (K : PySem.W.Frag) (mg : Str → Option Value) (base : Heap) (CX : CXT) (k : Nat) (f : Addr) (n : Str) (sp : Sp) : Prop :=
  ∀ (A : Around) (outer : List Env) (s : Shared) (H : Hp) (u : Value) (v : V) (Q : VK) (E : XK), Room k A → Env0 P w K mg base A outer s H → RelV v u → sp [v] H Q E →
    codeAny (model P w) A (.call (.ref f) ⟨[], [(n, u)]⟩) (CR CX outer P w H s Q E) s
theorem pe_callK1 {n : Str} {kw : Keyword} {tk : TA} (F : FnK1 X.prog X.w X.K X.mg X.base CX k f n sp) (hr : Room k X.A) (hg : Gl X x) (hm : X.mg x = some (.ref f)) (hk : PySem.W.keepIn X.K (.ref f) = true) (hx : Passes CX X E)
    (hkw : PK X [kw] tk) (hall : (backToKw pos (keywordEach [kw] X.env)).all (·.1.isSome) = true := by rfl) (hks : (backToKw pos (keywordEach [kw] X.env)).filterMap (·.1) = [n] := by rfl)
    (hdb : (x == ("__debug__" : Str)) = false := by decide)
    (hpl : ((backTo pos (starEach [] X.env)).any (·.1) || (backToKw pos (keywordEach [kw] X.env)).any (·.1.isNone)) = false := by rfl) :
    PE X (.Call (.Name x p) [] [kw] pos) (fun σ H Q => tk σ H fun zs H1 => ∃ v, zs = [v] ∧ sp [v] H1 Q E) := by
  refine ⟨fun pins s σ H Q I h => ?_⟩
  refine wpAny_Call_Name_kw (ld_glob I hg hm ?_ hdb)
  refine PySem.W.callWith_KW0 (h₀ := X.base) I.ok.mod.kin hk hall ?_ hpl
  refine thn (hkw.run pos pins s σ H _ I h) fun ws s2 ⟨zs, H2, I2, rz, v, ez, q2⟩ => ⟨I2.kIn, ?_⟩
  subst ez
  rw [hks]
  cases rz with
  | cons r rr =>
    cases rr
    refine wpAny_call (codeAny_mono (F X.A X.stack s2 H2 _ v Q E hr I2.env0 r q2) fun rr s' hq => ?_)
    cases rr with
    | error e => exact hx pins σ H2 s2 e s' I2 hq
    | ok fl =>
      cases fl with
      | ret u => exact I2.after hq
      | next => exact False.elim hq
      | brk => exact False.elim hq
      | cont => exact False.elim hq
end
section
variable {CX : CXT} {P : Program} {w : World} {K : PySem.W.Frag} {mg : Str → Option Value} {base : Heap} {k : Nat} {f : Addr} {name qual : Str} {params : Arguments} {body : List Stmt} {scope : Scope} {dV kV doc pm cdv ct oc : Value} {an od : Option Addr}
  {osl : Array (Option Value)} {N : List Str} {sp : Sp}
theorem fn_starK {p1 pv : Str} (lk : K.lookup f = some ⟨oc, od, .func (PySem.W.fnOf name qual params body scope dV kV doc pm an cdv ct), osl⟩) (hcd : PySem.W.codeIn K cdv qual = true) (S : FnScope N ([p1] ++ [pv]) scope) (hCX : CXUp CX)
    (hb : ∀ u : Value, bindArgs (PySem.W.fnOf name qual params body scope dV kV doc pm an cdv ct) ⟨[], [(p1, u)]⟩ = (newTuple [] >>= fun t => pure [(p1, u), (pv, t)]))
    (hbody : ∀ (A : Around) (outer : List Env) (s : Shared) (H : Hp) (vs : List V) (Q : VK) (E : XK), Room k (A.deeper (envOfC qual scope s.heap.objs.size f cdv)) → sp vs H Q E →
      ∃ t, PSs (cxOf CX P w K mg base N qual scope f cdv A outer s H E) body t ∧ t { nx := fun _ H' => Q .non H', rt := Q } (start N vs) H) :
    FnK1 P w K mg base CX (k + 1) f p1 (fun vs H Q E => ∃ v, vs = [v] ∧ ∀ p, H p = Option.none → sp [v, V.ref p] (upd H p (.tup [])) Q E) := by
  intro A outer s H u v Q E hr e0 r hsp
  obtain ⟨v', ev, hq⟩ := hsp
  cases ev
  have hn : H s.heap.objs.size = Option.none := e0.hok.fresh (Nat.le_refl _)
  refine run_bnd lk hcd S hr e0 (G := fun xs H2 => ∃ p, H p = Option.none ∧ xs = [v] ++ [V.ref p] ∧ H2 = upd H p (.tup [])) (fun A' Ex Q' h => ?_) fun s2 H2 xs ⟨p, hp, ex, eH⟩ hr' => ?_
  · rw [hb u]
    refine wpAny_bind (wpAny_newTuple (wpAny_pure ?_) (by decide))
    have new : ObjOk P w (upd H s.heap.objs.size (.tup [])) (s.heap.push ({ cls := .type "tuple", data := .seq ([] : List Value).toArray } : Obj)) s.heap.objs.size (.tup []) := ⟨by decide, [], .nil, ⟨_, Heap.get?_push_size _ rfl, rfl, _, rfl⟩⟩
    have un := un_laid (fs := frs outer) (s := s) (o := ({ cls := .type "tuple", data := .seq ([] : List Value).toArray } : Obj)) (u := .tup []) hn
    have z := h _ _ ([v] ++ [V.ref s.heap.objs.size]) ([u] ++ [Value.ref s.heap.objs.size]) (env0_laid e0 new) un rfl (fun e s' => hCX outer s H _ _ E e s' un (fun b o q => Heap.get?_push_of_some _ q) rfl) (.cons r (.cons rfl .nil))
      rfl ⟨_, hn, rfl, rfl⟩
    exact z
  · subst ex eH
    exact hbody A outer s2 _ _ Q E hr' (hq p hp)
end
/-! ### the mirror of book_of -/
def goodList (n : Int) (d : PyData) : Bool := areUnlike n d && decide (2 ≤ (dInts d).length)
def bookOfX (d : PyData) (ls : List PyData) : Except (Str × Int) PyData :=
  if isInteger d && decide (1 ≤ toInt d) then
    (match ls.findIdx? fun l => !goodList (toInt d) l with
      | some k => .error ("lists", (k : Nat))
      | none => .ok (bookD (toInt d) (ls.map fun l => srt (dInts l))))
  else .error ("size", -1)
def spBookB (K : PySem.W.Frag) (C : Addr) : Sp := fun vs H Q E => ∃ u d p xs ls, vs = [u, .ref p] ∧ Rp K H u d ∧ SqT K H p xs ∧ xs.length ≤ 1000 ∧ RpAll K H xs ls ∧ Out K C Q E H (bookOfX d ls)
/-- as callers say it -/
def spBookR (K : PySem.W.Frag) (C : Addr) : Sp := fun vs H Q E => ∃ u us d ls, vs = u :: us ∧ Rp K H u d ∧ us.length ≤ 1000 ∧ RpAll K H us ls ∧ Out K C Q E H (bookOfX d ls)
end LK
namespace LK
open PySem PySem.Spec PyProof.Rows L2
/-! ### enumerate of a list or a tuple -/
def iEnumA (K : PySem.W.Frag) (ta : TA) : TI := fun σ H R => ta σ H fun vs H1 => ∃ a xs, vs = [.ref a] ∧ ((SqL K H1 a xs ∧ R (Ite K a) H1) ∨ (SqT K H1 a xs ∧ R (IteT K a) H1))
theorem pi_enumA {X : Cx} {K : PySem.W.Frag} {e : Expr} {ta : TA} {p pos tpos : Pos} {elts : List Expr} {kk : Nat} (hg : Gl X "enumerate") (hm : X.mg "enumerate" = none) (ha : PA X [e] ta) (hK : X.K = K := by rfl) (hs : starEach [e] X.env = [(false, eval e X.env)] := by rfl) :
    PI X (.Tuple elts kk tpos) (.Call (.Name "enumerate" p) [e] [] pos) (iEnumA K ta) := by
  subst hK
  refine ⟨fun pins s σ H R I h => ?_⟩
  refine Call_ (ld_blt I hg hm boot_enumerate (PyProof.Rows.callWith_type1 (thn (ha.run pos pins s σ H _ I h) fun us s1 ⟨vs, H1, I1, r1, q1⟩ => ?_) hs rfl))
  obtain ⟨a, xs, ex, q⟩ := q1
  subst ex
  cases r1 with
  | cons r rr =>
    cases rr
    cases r
    rcases q with ⟨hq, q⟩ | ⟨hq, q⟩
    · obtain ⟨its, rv, p', hz⟩ := I1.list hq
      refine call_enumerate_list p'.isList fun h' he hit hsz hk => wpAny_pyIter_enum he ?_
      have I2 : Inv X pins σ H1 { s1 with heap := h' } := I1.kept (t' := s1.toks) hk
      refine ⟨s1.heap.objs.size + 1, [s1.heap.objs.size + 1, s1.heap.objs.size], _, _, H1, rfl, I2, turn_enum a (s1.heap.objs.size + 1) s1.heap.objs.size, ⟨⟨.none, he⟩, hit, Nat.succ_ne_self _⟩, fun b hb => ?_, q⟩
      have e' : b = s1.heap.objs.size + 1 ∨ b = s1.heap.objs.size := by simpa using hb
      have hle : s1.heap.objs.size ≤ b := by
        rcases e' with z | z
        · rw [z]; exact Nat.le_add_right _ _
        · rw [z]; exact Nat.le_refl _
      exact I1.fpOk hle (I1.hok.fresh hle)
    · obtain ⟨its, rv, p', hz⟩ := I1.tuple hq
      have hal : a < s1.heap.objs.size := by obtain ⟨_, z, _⟩ := p'; exact Heap.lt_size z
      refine call_enumerate_tup p' fun h' he hit hsz hk => wpAny_pyIter_enum he ?_
      have I2 : Inv X pins σ H1 { s1 with heap := h' } := I1.kept (t' := s1.toks) hk
      refine ⟨s1.heap.objs.size + 1, [s1.heap.objs.size + 1, s1.heap.objs.size], _, _, H1, rfl, I2, turn_enumT a (s1.heap.objs.size + 1) s1.heap.objs.size, ⟨⟨.none, he⟩, hit, Nat.succ_ne_self _, Nat.ne_of_lt hal⟩, fun b hb => ?_, q⟩
      have e' : b = s1.heap.objs.size + 1 ∨ b = s1.heap.objs.size := by simpa using hb
      have hle : s1.heap.objs.size ≤ b := by
        rcases e' with z | z
        · rw [z]; exact Nat.le_add_right _ _
        · rw [z]; exact Nat.le_refl _
      exact I1.fpOk hle (I1.hok.fresh hle)
/-- {x: i for i, x in enumerate(line)}: the reading of the walk, over a list or a tuple -/
def DictOk (line : List Int) (i : Nat) (kvs : List (Key × V)) : Prop := kvs.length ≤ i ∧ ∀ k : Int, valV kvs (Sum.inl k) = if k ∈ line.take i then some (V.int (line.idxOf k : Nat)) else none
theorem idxOf_at : ∀ {line : List Int} {i : Nat} {x : Int}, line.Nodup → line[i]? = some x → line.idxOf x = i
  | [], i, x, _, h => by simp at h
  | a :: l, 0, x, _, h => by
    have e : a = x := by simpa using h
    subst e
    simp
  | a :: l, i + 1, x, n, h => by
    have hn := List.nodup_cons.mp n
    have hx : l[i]? = some x := by simpa using h
    have ih := idxOf_at hn.2 hx
    have hne : ¬ a = x := fun e => hn.1 (e ▸ List.mem_of_getElem? hx)
    have hb : (a == x) = false := by simpa using hne
    rw [List.idxOf_cons, hb, ih]
    rfl
theorem dict_step {line : List Int} {i : Nat} {x : Int} {kvs : List (Key × V)} (n : line.Nodup) (h : line[i]? = some x) (d : DictOk line i kvs) : DictOk line (i + 1) (putK kvs (Sum.inl x) (.int (i : Nat))) := by
  refine ⟨Nat.le_trans (length_putK _ _ _) (by have := d.1; omega), fun k => ?_⟩
  have et : line.take (i + 1) = line.take i ++ [x] := by
    rw [List.take_succ, h]
    rfl
  rw [valV_put, d.2 k, et]
  by_cases e : k = x
  · subst e
    rw [if_pos rfl, if_pos (by simp), idxOf_at n h]
  · rw [if_neg (fun z => e (by injection z))]
    by_cases hk : k ∈ line.take i
    · rw [if_pos hk, if_pos (by simp [hk])]
    · rw [if_neg hk, if_neg (by simp [hk, e])]
theorem dict_start (line : List Int) : DictOk line 0 [] := ⟨Nat.le_refl _, fun k => by simp [valV_nil]⟩
/-- the walk of the comprehension's reading -/
theorem dc_enum {K : PySem.W.Frag} {a : Addr} {line : List Int} {g : TG} {tt : TT} {tk tv : TE} {vs : List Nat} {σ : L2.St} {H : Hp} {D : Addr} {Qd : Hp → Prop} (hD : H D = none) (hz : line.length ≤ 1000) (nd : line.Nodup) (J : It)
    (hJ : (J = Ite K a ∧ SqL K H a (line.map V.int)) ∨ (J = IteT K a ∧ SqT K H a (line.map V.int)))
    (hs : ∀ (i : Nat) (x : Int) (T : Addr) (H1 : Hp) (Q : VK), (line[i]? = some x) → H1 T = none → Same H H1 → (∀ kvs, H1 D = some (.dK kvs) → True) →
      (∀ Q1 : V → V → Hp → Prop, Q1 (.int x) (.int (i : Nat)) (upd H1 T (.tup [.int (i : Nat), .int x])) → g (.ref T) (wipe σ vs) (upd H1 T (.tup [.int (i : Nat), .int x])) fun σ2 H2 => wipe σ2 vs = wipe σ vs ∧ tt σ2 H2 fun b H3 => b = true ∧ tk σ2 H3 fun y H4 => tv σ2 H4 fun z H5 => Q1 y z H5))
    (mono : ∀ (σ2 : L2.St) (H2 : Hp) (Q Q' : Bool → Hp → Prop), (∀ b H, Q b H → Q' b H) → tt σ2 H2 Q → tt σ2 H2 Q')
    (gmono : ∀ (v : V) (σ1 : L2.St) (H2 : Hp) (Q Q' : L2.St → Hp → Prop), (∀ s H, Q s H → Q' s H) → g v σ1 H2 Q → g v σ1 H2 Q')
    (hd : ∀ kvs H1, Same H H1 → H1 D = some (.dK kvs) → DictOk line line.length kvs → Qd H1) :
    ∃ W : Nat → Nat → Hp → Prop, (∃ m, W 0 m (upd H D (.dK []))) ∧ ∀ i m H, W i m H →
      (J.stop i H ∧ Qd H) ∨ (J.go i H ∧ ∃ Nx : Hp → Prop, (∀ H', Nx H' → ∃ m', m' < m ∧ W (i + 1) m' H') ∧ ∀ x H', J.yld i H x H' → g x (wipe σ vs) H' fun σ2 H2 => wipe σ2 vs = wipe σ vs ∧ tt σ2 H2 fun b H3 =>
        if b = true then tk σ2 H3 fun y H4 => tv σ2 H4 fun z H5 => ∃ kvs k, y = kV k ∧ H5 D = some (.dK kvs) ∧ kvs.length < sizeLine ∧ Nx (upd H5 D (.dK (putK kvs k z))) else Nx H3) := by
  let Pv : Nat → Hp → Prop := fun i H1 => ∃ kvs, Same H H1 ∧ H1 D = some (.dK kvs) ∧ DictOk line i kvs
  refine ⟨fun i m H1 => m = line.length - i ∧ i ≤ line.length ∧ Pv i H1, ⟨line.length, by simp, Nat.zero_le _, [], same_upd hD, upd_same, dict_start line⟩, ?_⟩
  rintro i m H1 ⟨rfl, hi, kvs, s1, hk, dk⟩
  have yld : ∀ x H', J.yld i H1 x H' → i < line.length → ∃ T z, x = .ref T ∧ H1 T = none ∧ H' = upd H1 T (.tup [.int (i : Nat), .int z]) ∧ line[i]? = some z := by
    intro x H' y hlt
    have hm : (line.map V.int)[i]? = some (.int line[i]) := by rw [List.getElem?_map, List.getElem?_eq_getElem hlt]; rfl
    rcases hJ with ⟨rfl, hq⟩ | ⟨rfl, hq⟩
    · obtain ⟨T, x', rfl, hT, rfl, e⟩ := y
      have := e _ (s1.seq hq)
      rw [hm] at this
      cases this
      exact ⟨T, _, rfl, hT, rfl, List.getElem?_eq_getElem hlt⟩
    · obtain ⟨T, x', rfl, hT, rfl, e⟩ := y
      have := e _ (seqT s1 hq)
      rw [hm] at this
      cases this
      exact ⟨T, _, rfl, hT, rfl, List.getElem?_eq_getElem hlt⟩
  by_cases hlt : i < line.length
  · have hgo : J.go i H1 := by
      have hm : (line.map V.int)[i]? = some (.int line[i]) := by rw [List.getElem?_map, List.getElem?_eq_getElem hlt]; rfl
      rcases hJ with ⟨rfl, hq⟩ | ⟨rfl, hq⟩
      · exact ⟨_, _, s1.seq hq, hm⟩
      · exact ⟨_, _, seqT s1 hq, hm⟩
    refine .inr ⟨hgo, Pv (i + 1), fun H' p' => ⟨line.length - (i + 1), by omega, rfl, hlt, p'⟩, fun x H' y => ?_⟩
    obtain ⟨T, z, rfl, hT, rfl, hz2⟩ := yld x H' y hlt
    have sT : Same H1 (upd H1 T (.tup [.int (i : Nat), .int z])) := same_upd hT
    have hk2 := sT _ _ hk
    refine gmono _ _ _ _ _ (fun σ2 H2 hq => ⟨hq.1, mono _ _ _ _ (fun b H3 hb => ?_) hq.2⟩) (hs i z T H1 (fun _ _ => True) hz2 hT s1 (fun _ _ => True.intro) (fun y z2 H5 => ∃ kvs k, y = kV k ∧ H5 D = some (.dK kvs) ∧ kvs.length < sizeLine ∧ Pv (i + 1) (upd H5 D (.dK (putK kvs k z2))))
      ⟨kvs, Sum.inl z, rfl, hk2, small1000 (by have := dk.1; omega), putK kvs (Sum.inl z) (.int (i : Nat)), fun b o e => ?_, upd_same, dict_step nd hz2 dk⟩)
    · rw [hb.1, if_pos rfl]
      exact hb.2
    · rw [upd_ne (ne_of_none e hD)]
      exact sT _ _ (s1 _ _ e)
  · have hie : i = line.length := by omega
    have hst : J.stop i H1 := by
      rcases hJ with ⟨rfl, hq⟩ | ⟨rfl, hq⟩
      · exact ⟨_, s1.seq hq, by rw [List.length_map]; omega⟩
      · exact ⟨_, seqT s1 hq, by rw [List.length_map]; omega⟩
    subst hie
    exact .inl ⟨hst, hd kvs H1 s1 hk dk⟩
theorem pgT {X : Cx} (K : PySem.W.Frag) {pos : Pos} {es : List Expr} {k : Nat} {t : TGs} {n : Nat} (hc : X.calm = true) (h : PGs X es t) (hK : X.K = K := by rfl)
    (hn : (assignEach es X.env).length = n := by rfl) (hst : (assignEach es X.env).findIdx? (·.1) = none := by rfl) : PG X (.Tuple es k pos) (gTup K n t) := hK ▸ pg_tup hc h hn hst
end LK
namespace LK
open PySem PySem.Spec PyProof.Rows L2
/-! ### the things told in lists, each where it comes first; the ties by them -/
def addT (acc : List Int) (x : Int) : List Int := if x ∈ acc then acc else acc ++ [x]
def firstsL (acc l : List Int) : List Int := l.foldl addT acc
def firsts (rows : List (List Int)) : List Int := rows.foldl firstsL []
def SpotOk (th : List Int) (kvs : List (Key × V)) : Prop := kvs.length = th.length ∧ ∀ k : Int, valV kvs (Sum.inl k) = if k ∈ th then some (V.int (th.idxOf k : Nat)) else none
theorem spot_start : SpotOk [] [] := ⟨rfl, fun k => by simp [valV_nil]⟩
theorem spot_old {th : List Int} {kvs : List (Key × V)} {x : Int} (s : SpotOk th kvs) (h : x ∈ th) : SpotOk (addT th x) kvs := by
  unfold addT
  rw [if_pos h]
  exact s
theorem spot_new {th : List Int} {kvs : List (Key × V)} {x : Int} (s : SpotOk th kvs) (h : ¬ x ∈ th) : SpotOk (addT th x) (putK kvs (Sum.inl x) (.int (kvs.length : Nat))) := by
  unfold addT
  rw [if_neg h]
  have hn : valV kvs (Sum.inl x) = none := by rw [s.2 x, if_neg h]
  have hk := valV_not hn
  have hp : putK kvs (Sum.inl x) (.int (kvs.length : Nat)) = kvs ++ [(Sum.inl x, .int (kvs.length : Nat))] := by
    unfold putK
    rw [if_neg]
    intro ha
    obtain ⟨kv, hm, he⟩ := List.any_eq_true.mp ha
    exact hk (List.mem_map.mpr ⟨kv, hm, by simpa using he⟩)
  refine ⟨by rw [hp, List.length_append, List.length_append, s.1]; rfl, fun k => ?_⟩
  rw [valV_put, s.2 k]
  by_cases e : k = x
  · subst e
    rw [if_pos rfl, if_pos (by simp), List.idxOf_append, if_neg h, s.1]
    simp
  · rw [if_neg (fun z => e (by injection z))]
    by_cases hm : k ∈ th
    · rw [if_pos hm, if_pos (by simp [hm]), List.idxOf_append, if_pos hm]
    · rw [if_neg hm, if_neg (by simp [hm, e])]
theorem addT_mem {acc : List Int} {x y : Int} : y ∈ addT acc x ↔ y ∈ acc ∨ y = x := by
  unfold addT
  by_cases h : x ∈ acc
  · rw [if_pos h]
    constructor
    · exact .inl
    · rintro (h2 | rfl)
      · exact h2
      · exact h
  · rw [if_neg h]
    simp
theorem addT_nodup {acc : List Int} {x : Int} (n : acc.Nodup) : (addT acc x).Nodup := by
  unfold addT
  by_cases h : x ∈ acc
  · rw [if_pos h]
    exact n
  · rw [if_neg h]
    refine List.nodup_append.mpr ⟨n, by simp, fun a ha b hb => ?_⟩
    have : b = x := by simpa using hb
    subst this
    intro e
    subst e
    exact h ha
theorem firstsL_mem {y : Int} : ∀ {l acc : List Int}, y ∈ firstsL acc l ↔ y ∈ acc ∨ y ∈ l
  | [], acc => by simp [firstsL]
  | x :: l, acc => by
    show y ∈ firstsL (addT acc x) l ↔ _
    rw [firstsL_mem, addT_mem, List.mem_cons]
    constructor
    · rintro ((h | h) | h)
      · exact .inl h
      · exact .inr (.inl h)
      · exact .inr (.inr h)
    · rintro (h | h | h)
      · exact .inl (.inl h)
      · exact .inl (.inr h)
      · exact .inr h
theorem firstsL_nodup : ∀ {l acc : List Int}, acc.Nodup → (firstsL acc l).Nodup
  | [], acc, n => n
  | x :: l, acc, n => by
    show (firstsL (addT acc x) l).Nodup
    exact firstsL_nodup (addT_nodup n)
theorem firsts_from {y : Int} : ∀ {rows : List (List Int)} {acc : List Int}, y ∈ rows.foldl firstsL acc ↔ y ∈ acc ∨ ∃ r ∈ rows, y ∈ r
  | [], acc => by simp
  | r :: rows, acc => by
    rw [List.foldl_cons, firsts_from, firstsL_mem]
    constructor
    · rintro ((h | h) | ⟨q, hq, h⟩)
      · exact .inl h
      · exact .inr ⟨r, by simp, h⟩
      · exact .inr ⟨q, by simp [hq], h⟩
    · rintro (h | ⟨q, hq, h⟩)
      · exact .inl (.inl h)
      · rcases List.mem_cons.mp hq with rfl | hq
        · exact .inl (.inr h)
        · exact .inr ⟨q, hq, h⟩
theorem firsts_mem {y : Int} {rows : List (List Int)} : y ∈ firsts rows ↔ ∃ r ∈ rows, y ∈ r := by
  unfold firsts
  rw [firsts_from]
  simp
theorem firsts_nd : ∀ {rows : List (List Int)} {acc : List Int}, acc.Nodup → (rows.foldl firstsL acc).Nodup
  | [], acc, n => n
  | r :: rows, acc, n => by
    rw [List.foldl_cons]
    exact firsts_nd (firstsL_nodup n)
theorem firsts_nodup (rows : List (List Int)) : (firsts rows).Nodup := firsts_nd (by simp)
theorem firsts_take {rows : List (List Int)} {i : Nat} {r : List Int} (h : rows[i]? = some r) : firsts (rows.take (i + 1)) = firstsL (firsts (rows.take i)) r := by
  have e : rows.take (i + 1) = rows.take i ++ [r] := by
    rw [List.take_succ, h]
    rfl
  rw [e]
  unfold firsts
  rw [List.foldl_append]
  rfl
theorem firstsL_take {acc r : List Int} {j : Nat} {x : Int} (h : r[j]? = some x) : firstsL acc (r.take (j + 1)) = addT (firstsL acc (r.take j)) x := by
  have e : r.take (j + 1) = r.take j ++ [x] := by
    rw [List.take_succ, h]
    rfl
  rw [e]
  unfold firstsL
  rw [List.foldl_append]
  rfl
theorem small_len {n : Int} {th : List Int} (nd : th.Nodup) (hin : ∀ x ∈ th, 0 ≤ x ∧ x < n) : th.length ≤ n.toNat := by
  have h2 : th ⊆ (List.range n.toNat).map fun i : Nat => (i : Int) := fun y hy => by
    have := hin y hy
    exact List.mem_map.mpr ⟨y.toNat, List.mem_range.mpr (by omega), by omega⟩
  have := nodup_le nd h2
  rwa [List.length_map, List.length_range] at this
def NearT (th : List Int) (rows : List (List Int)) (ms : List Nat) : Prop :=
  ms.length = th.length ∧ ∀ (i m : Nat), ms[i]? = some m → ∀ j : Nat, m.testBit j = decide (j < th.length ∧ tiedB rows (th.getD i 0) (th.getD j 0) = true)
def NearTI (th : List Int) (rows : List (List Int)) (r done : List Int) (ms : List Nat) : Prop :=
  ms.length = th.length ∧ ∀ (i m : Nat), ms[i]? = some m → ∀ j : Nat, m.testBit j = decide (j < th.length ∧ (tiedB rows (th.getD i 0) (th.getD j 0) = true ∨ (th.getD i 0 ∈ done ∧ th.getD j 0 ∈ r)))
theorem neart_start (th : List Int) : NearT th [] (List.replicate th.length 0) :=
  ⟨List.length_replicate, fun i m hm j => by
    have hmem := List.mem_of_getElem? hm
    rw [(List.mem_replicate.mp hmem).2]
    simp [tiedB]⟩
theorem neart_in {th : List Int} {rows : List (List Int)} {r : List Int} {ms : List Nat} (N : NearT th rows ms) : NearTI th rows r [] ms :=
  ⟨N.1, fun i m hm j => by rw [N.2 i m hm j]; simp⟩
theorem tied_take {rows : List (List Int)} {r : List Int} {i : Nat} (h : rows[i]? = some r) (x y : Int) : tiedB (rows.take (i + 1)) x y = (tiedB (rows.take i) x y || (decide (x ∈ r) && decide (y ∈ r))) := by
  have e : rows.take (i + 1) = rows.take i ++ [r] := by
    rw [List.take_succ, h]
    rfl
  rw [e]
  unfold tiedB
  rw [List.any_append]
  simp
theorem neart_end {th : List Int} {rows : List (List Int)} {r : List Int} {i : Nat} {ms : List Nat} (h : rows[i]? = some r) (N : NearTI th (rows.take i) r r ms) : NearT th (rows.take (i + 1)) ms := by
  refine ⟨N.1, fun x m hm y => ?_⟩
  rw [N.2 x m hm y, tied_take h]
  congr 1
  apply propext
  simp [Bool.or_eq_true, Bool.and_eq_true]
def idxs (th r : List Int) : List Int := r.map fun x => ((th.idxOf x : Nat) : Int)
theorem idxs_mem {th r : List Int} (nd : th.Nodup) (hs : ∀ x ∈ r, x ∈ th) (j : Nat) : (j : Int) ∈ idxs th r ↔ j < th.length ∧ th.getD j 0 ∈ r := by
  unfold idxs
  rw [List.mem_map]
  constructor
  · rintro ⟨y, hy, e⟩
    have e2 : th.idxOf y = j := by omega
    have hl : th.idxOf y < th.length := List.idxOf_lt_length_of_mem (hs y hy)
    rw [e2] at hl
    refine ⟨hl, ?_⟩
    rw [List.getD_eq_getElem?_getD, List.getElem?_eq_getElem hl]
    have : th[j] = y := by
      subst e2
      exact List.getElem_idxOf hl
    rw [Option.getD_some, this]
    exact hy
  · rintro ⟨hl, hy⟩
    refine ⟨_, hy, ?_⟩
    have : th.idxOf (th.getD j 0) = j := idxOf_at nd (by rw [List.getD_eq_getElem?_getD, List.getElem?_eq_getElem hl]; rfl)
    rw [this]
theorem neart_step {th : List Int} {rows : List (List Int)} {r : List Int} {j : Nat} {x : Int} {ms : List Nat} {m : Nat} (nd : th.Nodup) (hs : ∀ x ∈ r, x ∈ th) (h : r[j]? = some x) (N : NearTI th rows r (r.take j) ms) (hm : ms[th.idxOf x]? = some m) :
    NearTI th rows r (r.take (j + 1)) (ms.set (th.idxOf x) (m ||| maskL (idxs th r))) := by
  obtain ⟨hl, hb⟩ := N
  have hx : th.idxOf x < ms.length := (List.getElem?_eq_some_iff.mp hm).1
  have hxr : x ∈ r := List.mem_of_getElem? h
  have hxt : x ∈ th := hs x hxr
  have et : r.take (j + 1) = r.take j ++ [x] := by
    rw [List.take_succ, h]
    rfl
  have h0 : ∀ z ∈ idxs th r, 0 ≤ z := fun z hz => by
    obtain ⟨y, _, rfl⟩ := List.mem_map.mp hz
    omega
  have ex : th.getD (th.idxOf x) 0 = x := by
    have hlt := List.idxOf_lt_length_of_mem hxt
    rw [List.getD_eq_getElem?_getD, List.getElem?_eq_getElem hlt, Option.getD_some]
    exact List.getElem_idxOf hlt
  refine ⟨by rw [List.length_set]; exact hl, fun z m2 hz y => ?_⟩
  rw [et]
  by_cases e : z = th.idxOf x
  · subst e
    rw [List.getElem?_set_self hx] at hz
    cases hz
    rw [Nat.testBit_or, hb _ m hm y, maskL_bit h0, ex]
    have key := idxs_mem nd hs y
    generalize th.getD y 0 = u at key ⊢
    by_cases c1 : y < th.length <;> by_cases c2 : u ∈ r <;> by_cases c3 : x ∈ List.take j r <;> cases c4 : tiedB rows x u <;> simp [key, c1, c2, c3, c4]
  · rw [List.getElem?_set_ne (fun q => e q.symm)] at hz
    rw [hb z m2 hz y]
    have hz2 : z < th.length := by rw [← hl]; exact (List.getElem?_eq_some_iff.mp hz).1
    have : ¬ th.getD z 0 = x := fun q => e (by
      rw [← q]
      exact (idxOf_at nd (by rw [List.getD_eq_getElem?_getD, List.getElem?_eq_getElem hz2]; rfl)).symm)
    generalize th.getD z 0 = u at this ⊢
    simp [this]
/-- for each thing told how many are tied to it, itself left out; halved -/
def tieC (rows : List (List Int)) : Int := ((firsts rows).map fun x => (((firsts rows).filter fun y => tiedB rows x y).length : Int) - 1).sum / 2
theorem neart_count {th : List Int} {rows : List (List Int)} {ms : List Nat} {i m : Nat} (N : NearT th rows ms) (hm : ms[i]? = some m) :
    m < 2 ^ th.length ∧ (bitL th.length m).length = (th.filter fun y => tiedB rows (th.getD i 0) y).length := by
  refine ⟨lt_of_bits fun j hj => ?_, ?_⟩
  · rw [N.2 i m hm j] at hj
    exact (of_decide_eq_true hj).1
  · have e := filter_map_range (fun y => tiedB rows (th.getD i 0) y) (fun y => y) 0 th
    rw [List.map_id'] at e
    rw [← e, List.length_map]
    unfold bitL
    congr 1
    refine List.filter_congr fun j hj => ?_
    rw [N.2 i m hm j]
    have := List.mem_range.mp hj
    simp [this]
end LK
/-! what stands while the law's state (a list at S) is written -/
namespace LK
open PySem PySem.Spec PyProof.Rows L2
def hide (S : Addr) (H : Hp) : Hp := fun b => if b = S then none else H b
theorem hide_self (S : Addr) (H : Hp) : hide S H S = none := by
  unfold hide
  rw [if_pos rfl]
theorem hide_ne {S b : Addr} {H : Hp} (h : b ≠ S) : hide S H b = H b := by
  unfold hide
  rw [if_neg h]
theorem hide_same (S : Addr) (H : Hp) : Same (hide S H) H := fun b u e => by
  by_cases h : b = S
  · subst h
    rw [hide_self] at e
    cases e
  · rw [hide_ne h] at e
    exact e
theorem hide_get {S b : Addr} {H : Hp} {u : HO} (e : hide S H b = some u) : H b = some u := hide_same S H b u e
theorem hide_mono {S : Addr} {H H' : Hp} (s : Same H H') : Same (hide S H) (hide S H') := fun b u e => by
  by_cases h : b = S
  · subst h
    rw [hide_self] at e
    cases e
  · rw [hide_ne h] at e ⊢
    exact s _ _ e
theorem hide_upd_self {S : Addr} {H : Hp} {o : HO} : hide S (upd H S o) = hide S H := by
  funext b
  by_cases h : b = S
  · subst h
    rw [hide_self, hide_self]
  · rw [hide_ne h, hide_ne h, upd_ne h]
theorem hide_upd {S p : Addr} {H : Hp} {o : HO} (h : p ≠ S) : hide S (upd H p o) = upd (hide S H) p o := by
  funext b
  by_cases e : b = S
  · subst e
    rw [hide_self, upd_ne (Ne.symm h), hide_self]
  · rw [hide_ne e]
    by_cases e2 : b = p
    · subst e2
      rw [upd_same, upd_same]
    · rw [upd_ne e2, upd_ne e2, hide_ne e]
/-- the law's state: the script at p, the place in it, what is left of a big cell, the mix -/
structure StOk (H : Hp) (S p : Addr) : Prop where
  ex : ∃ (is : List Int) (pos : Nat) (cell mix : Int), H S = some (.lst [.ref p, .int pos, .int cell, .int mix]) ∧ p ≠ S ∧ H p = some (.lst (is.map V.int)) ∧ is.length ≤ 1000 ∧ pos ≤ is.length ∧ 0 ≤ cell
theorem StOk.atS {H : Hp} {S p : Addr} (h : StOk H S p) : ∃ zs, H S = some (.lst zs) := by
  obtain ⟨_, _, _, _, e, _⟩ := h.ex
  exact ⟨_, e⟩
theorem StOk.atP {H : Hp} {S p : Addr} (h : StOk H S p) : ∃ zs, H p = some (.lst zs) := by
  obtain ⟨_, _, _, _, _, _, e, _⟩ := h.ex
  exact ⟨_, e⟩
theorem StOk.same {H H' : Hp} {S p : Addr} (h : StOk H S p) (s : Same H H') : StOk H' S p := by
  obtain ⟨is, pos, cell, mix, h1, h2, h3, h4⟩ := h.ex
  exact ⟨is, pos, cell, mix, s _ _ h1, h2, s _ _ h3, h4⟩
theorem StOk.upd {H : Hp} {S p A : Addr} {o : HO} (h : StOk H S p) (n1 : A ≠ S) (n2 : A ≠ p) : StOk (L2.upd H A o) S p := by
  obtain ⟨is, pos, cell, mix, h1, h2, h3, h4⟩ := h.ex
  exact ⟨is, pos, cell, mix, by rw [upd_ne n1.symm]; exact h1, h2, by rw [upd_ne n2.symm]; exact h3, h4⟩
/-- all but the state stands, the state is one -/
structure Mv (S p : Addr) (H H' : Hp) : Prop where
  same : Same (hide S H) (hide S H')
  ok : StOk H' S p
theorem Mv.refl {S p : Addr} {H : Hp} (h : StOk H S p) : Mv S p H H := ⟨Same.refl _, h⟩
theorem Mv.trans {S p : Addr} {H H' H'' : Hp} (a : Mv S p H H') (b : Mv S p H' H'') : Mv S p H H'' := ⟨a.same.trans b.same, b.ok⟩
theorem Mv.of {S p : Addr} {H H' : Hp} (h : StOk H S p) (s : Same H H') : Mv S p H H' := ⟨hide_mono s, h.same s⟩
theorem Mv.then {S p : Addr} {H H' H'' : Hp} (a : Mv S p H H') (s : Same H' H'') : Mv S p H H'' := a.trans (.of a.ok s)
theorem free_ne {S p q : Addr} {H : Hp} (h : StOk H S p) (n : H q = none) : q ≠ S := by
  obtain ⟨zs, e⟩ := h.atS
  exact fun z => by rw [z, e] at n; cases n
theorem free_ne2 {S p q : Addr} {H : Hp} (h : StOk H S p) (n : H q = none) : q ≠ p := by
  obtain ⟨zs, e⟩ := h.atP
  exact fun z => by rw [z, e] at n; cases n
/-- what was laid anew may be written -/
theorem Mv.put {S p A : Addr} {H H' : Hp} {o : HO} (h : StOk H S p) (n : H A = none) (a : Mv S p H H') : Mv S p H (L2.upd H' A o) := by
  have n1 := free_ne h n
  refine ⟨fun b u e => ?_, a.ok.upd n1 (free_ne2 h n)⟩
  rw [hide_upd n1, upd_ne]
  · exact a.same _ _ e
  · intro q
    subst q
    rw [hide_ne n1, n] at e
    cases e
theorem Mv.free {S p q : Addr} {H H' : Hp} (a : Mv S p H H') (n : H' q = none) : H q = none := by
  by_cases e : q = S
  · subst e
    obtain ⟨zs, e⟩ := a.ok.atS
    rw [e] at n
    cases n
  · cases h : H q with
    | none => rfl
    | some u =>
      have := a.same q u (by rw [hide_ne e]; exact h)
      rw [hide_ne e, n] at this
      cases this
theorem Mv.get {S p b : Addr} {H H' : Hp} {o : HO} (a : Mv S p H H') (n : b ≠ S) (e : H b = some o) : H' b = some o := by
  have := a.same b o (by rw [hide_ne n]; exact e)
  exact hide_get this
theorem Mv.rp {K : PySem.W.Frag} {S p : Addr} {H H' : Hp} {v : V} {d : PyData} (a : Mv S p H H') (r : Rp K (hide S H) v d) : Rp K (hide S H') v d := r.same a.same
theorem Mv.all {K : PySem.W.Frag} {S p : Addr} {H H' : Hp} {v : List V} {d : List PyData} (a : Mv S p H H') (r : RpAll K (hide S H) v d) : RpAll K (hide S H') v d := r.same a.same
theorem rp_show {K : PySem.W.Frag} {S : Addr} {H : Hp} {v : V} {d : PyData} (r : Rp K (hide S H) v d) : Rp K H v d := r.same (hide_same S H)
theorem hide_free {S p : Addr} {H : Hp} (n : H p = none) : hide S H p = none := by
  by_cases e : p = S
  · subst e
    exact hide_self _ _
  · rw [hide_ne e]
    exact n
theorem seqT_hide {K : PySem.W.Frag} {H : Hp} {S a : Addr} {zs xs : List V} (hS : H S = some (.lst zs)) (s : SqT K H a xs) : SqT K (hide S H) a xs := by
  have ne : ∀ o, H a = some o → (∀ zs, o ≠ .lst zs) → hide S H a = some o := fun o h n => by
    rw [hide_ne]
    · exact h
    · intro e
      subst e
      rw [hS] at h
      exact n _ (Option.some.inj h).symm
  rcases s with (h | ⟨o, h⟩) | h
  · exact .inl (.inl (ne _ h fun _ q => by cases q))
  · exact .inl (.inr ⟨o, ne _ h fun _ q => by cases q⟩)
  · exact .inr h
mutual
theorem rp_hideL {K : PySem.W.Frag} {H : Hp} {S : Addr} {zs : List V} (hS : H S = some (.lst zs)) : ∀ {d : PyData} {v : V}, noL d = true → Rp K H v d → Rp K (hide S H) v d
  | .none, _, _, h => by cases h; exact .non
  | .bool b, _, _, h => by cases h; exact .bl b
  | .int i, _, _, h => by cases h; exact .int i
  | .str x, _, _, h => by cases h; exact .str x
  | .list ds, _, n, h => by simp [noL] at n
  | .tuple ds, _, n, h => by
    cases h with
    | tup s l r => exact .tup (seqT_hide hS s) l (rpAll_hideL hS (by simpa [noL] using n) r)
  | .dict _, _, _, h => by cases h
theorem rpAll_hideL {K : PySem.W.Frag} {H : Hp} {S : Addr} {zs : List V} (hS : H S = some (.lst zs)) : ∀ {ds : List PyData} {vs : List V}, noLs ds = true → RpAll K H vs ds → RpAll K (hide S H) vs ds
  | [], _, _, h => by cases h; exact .nil
  | d :: ds, _, n, h => by
    cases h with
    | cons a b =>
      unfold noLs at n
      rw [Bool.and_eq_true] at n
      exact .cons (rp_hideL hS n.1 a) (rpAll_hideL hS n.2 b)
end
theorem rp_hide {K : PySem.W.Frag} {H : Hp} {S p : Addr} {v : V} {d : PyData} (h : StOk H S p) (n : noL d = true) (r : Rp K H v d) : Rp K (hide S H) v d := by
  obtain ⟨zs, e⟩ := h.atS
  exact rp_hideL e n r
theorem noL_book (n : Int) (rows : List (List Int)) : noL (bookD n rows) = true := by
  show noLs [.int n, .tuple (rows.map dTup)] = true
  unfold noLs
  unfold noLs
  unfold noLs
  show (noL (.tuple (rows.map dTup)) && true) = true
  rw [Bool.and_true]
  show noLs (rows.map dTup) = true
  exact noLs_rows rows
end LK
namespace LK
open PySem PySem.Spec PyProof.Rows L2
theorem pe_bmK {X : Cx} (K : PySem.W.Frag) {T id : String} {name : Str} {r : V → List V → Hp → VK → Prop} {o e : Expr} {es : List Expr} {to : TE} {t : TA} {apos cpos : Pos} (pa : PlainAttrs T) (slot : Slot T name id) (hty : typeOf (.builtin id) = pure (.type "method_descriptor")) (hm : MtR X id r) (ho : PE X o to) (ha : PA X (e :: es) t)
    (h : X.K = K := by rfl)
    (hbase : attributeBase o name X.env (eval o X.env) = eval o X.env := by rfl)
    (hfew : ((backTo cpos (starEach (e :: es) X.env)).all (fun x => !x.1) && (backToKw cpos (keywordEach [] X.env)).all (fun x => x.1.isSome)
      && decide ((e :: es).length + ([] : List Keyword).length + (if ([] : List Keyword).isEmpty then 0 else 1) < 30)) = true := by rfl)
    (hline : (apos.endLine == cpos.line) = true := by rfl) (hs : starEach (e :: es) X.env = (false, eval e X.env) :: starEach es X.env := by rfl) (hplain : (backTo cpos (starEach es X.env)).any (·.1) = false := by rfl) :
    PE X (.Call (.Attribute o name apos) (e :: es) [] cpos) (tBM K T r to t) := by
  subst h
  exact pe_bm pa slot hty hm ho ha hbase hfew hline hs hplain
end LK
namespace LK
open PySem PySem.Spec PyProof.Rows L2
def topS (i : Nat) : Stmt := PySem.Challenge.pw_listbylist_k01_whole_books_made_and_chan.main.body.getD i (.Pass ⟨0, 0, 0, 0⟩)
abbrev s_is_integer : Stmt := topS 1
theorem sc_is_integer : FnScope ["thing"] ["thing"] (defScope s_is_integer) := ⟨rfl, rfl, rfl, by decide +kernel, rfl, by decide +kernel, by decide +kernel⟩
abbrev s_is_number : Stmt := topS 2
theorem sc_is_number : FnScope ["thing"] ["thing"] (defScope s_is_number) := ⟨rfl, rfl, rfl, by decide +kernel, rfl, by decide +kernel, by decide +kernel⟩
abbrev s_is_below : Stmt := topS 3
theorem sc_is_below : FnScope ["size", "thing"] ["size", "thing"] (defScope s_is_below) := ⟨rfl, rfl, rfl, by decide +kernel, rfl, by decide +kernel, by decide +kernel⟩
abbrev s_is_rising : Stmt := topS 4
theorem sc_is_rising : FnScope ["things", "k"] ["things"] (defScope s_is_rising) := ⟨rfl, rfl, rfl, by decide +kernel, rfl, by decide +kernel, by decide +kernel⟩
abbrev s_are_below : Stmt := topS 5
theorem sc_are_below : FnScope ["size", "thing", "one"] ["size", "thing"] (defScope s_are_below) := ⟨rfl, rfl, rfl, by decide +kernel, rfl, by decide +kernel, by decide +kernel⟩
abbrev s_are_unlike_below : Stmt := topS 6
theorem sc_are_unlike_below : FnScope ["size", "thing"] ["size", "thing"] (defScope s_are_unlike_below) := ⟨rfl, rfl, rfl, by decide +kernel, rfl, by decide +kernel, by decide +kernel⟩
abbrev s_is_lot : Stmt := topS 7
theorem sc_is_lot : FnScope ["size", "thing"] ["size", "thing"] (defScope s_is_lot) := ⟨rfl, rfl, rfl, by decide +kernel, rfl, by decide +kernel, by decide +kernel⟩
abbrev s_is_line : Stmt := topS 8
theorem sc_is_line : FnScope ["size", "thing"] ["size", "thing"] (defScope s_is_line) := ⟨rfl, rfl, rfl, by decide +kernel, rfl, by decide +kernel, by decide +kernel⟩
abbrev s_is_listed : Stmt := topS 10
theorem sc_is_listed : FnScope ["size", "thing"] ["size", "thing"] (defScope s_is_listed) := ⟨rfl, rfl, rfl, by decide +kernel, rfl, by decide +kernel, by decide +kernel⟩
abbrev s_is_book : Stmt := topS 11
theorem sc_is_book : FnScope ["thing", "size", "lists", "things"] ["thing"] (defScope s_is_book) := ⟨rfl, rfl, rfl, by decide +kernel, rfl, by decide +kernel, by decide +kernel⟩
abbrev s_are_tied : Stmt := topS 12
theorem sc_are_tied : FnScope ["book", "here", "there", "things"] ["book", "here", "there"] (defScope s_are_tied) := ⟨rfl, rfl, rfl, by decide +kernel, rfl, by decide +kernel, by decide +kernel⟩
abbrev s_is_thing : Stmt := topS 13
theorem sc_is_thing : FnScope ["book", "thing"] ["book", "thing"] (defScope s_is_thing) := ⟨rfl, rfl, rfl, by decide +kernel, rfl, by decide +kernel, by decide +kernel⟩
abbrev s_is_tie : Stmt := topS 14
theorem sc_is_tie : FnScope ["book", "thing"] ["book", "thing"] (defScope s_is_tie) := ⟨rfl, rfl, rfl, by decide +kernel, rfl, by decide +kernel, by decide +kernel⟩
abbrev s_is_row : Stmt := topS 15
theorem sc_is_row : FnScope ["book", "thing", "k"] ["book", "thing"] (defScope s_is_row) := ⟨rfl, rfl, rfl, by decide +kernel, rfl, by decide +kernel, by decide +kernel⟩
abbrev s_need : Stmt := topS 22
theorem sc_need : FnScope ["holds", "word"] ["holds", "word"] (defScope s_need) := ⟨rfl, rfl, rfl, by decide +kernel, rfl, by decide +kernel, by decide +kernel⟩
abbrev s_kept_to : Stmt := topS 24
theorem sc_kept_to : FnScope ["book", "lot", "kept", "things", "thing"] ["book", "lot"] (defScope s_kept_to) := ⟨rfl, rfl, rfl, by decide +kernel, rfl, by decide +kernel, by decide +kernel⟩
abbrev s_with_list : Stmt := topS 25
theorem sc_with_list : FnScope ["book", "things", "size", "lists"] ["book", "things"] (defScope s_with_list) := ⟨rfl, rfl, rfl, by decide +kernel, rfl, by decide +kernel, by decide +kernel⟩
abbrev s_without_list : Stmt := topS 26
theorem sc_without_list : FnScope ["book", "listed", "size", "lists"] ["book", "listed"] (defScope s_without_list) := ⟨rfl, rfl, rfl, by decide +kernel, rfl, by decide +kernel, by decide +kernel⟩
abbrev s_beside : Stmt := topS 27
theorem sc_beside : FnScope ["book", "other", "size", "moved", "things", "thing"] ["book", "other"] (defScope s_beside) := ⟨rfl, rfl, rfl, by decide +kernel, rfl, by decide +kernel, by decide +kernel⟩
abbrev s_renumbered : Stmt := topS 28
theorem sc_renumbered : FnScope ["book", "line", "numbers", "k", "thing", "things"] ["book", "line"] (defScope s_renumbered) := ⟨rfl, rfl, rfl, by decide +kernel, rfl, by decide +kernel, by decide +kernel⟩
abbrev s_rebased : Stmt := topS 29
theorem sc_rebased : FnScope ["book", "line"] ["book", "line"] (defScope s_rebased) := ⟨rfl, rfl, rfl, by decide +kernel, rfl, by decide +kernel, by decide +kernel⟩
abbrev s_mirrored : Stmt := topS 30
theorem sc_mirrored : FnScope ["book"] ["book"] (defScope s_mirrored) := ⟨rfl, rfl, rfl, by decide +kernel, rfl, by decide +kernel, by decide +kernel⟩
abbrev s_mask_of : Stmt := topS 32
theorem sc_mask_of : FnScope ["things", "mask", "thing"] ["things"] (defScope s_mask_of) := ⟨rfl, rfl, rfl, by decide +kernel, rfl, by decide +kernel, by decide +kernel⟩
abbrev s_things_of : Stmt := topS 33
theorem sc_things_of : FnScope ["mask", "found", "left", "lowest"] ["mask"] (defScope s_things_of) := ⟨rfl, rfl, rfl, by decide +kernel, rfl, by decide +kernel, by decide +kernel⟩
abbrev s_count_of : Stmt := topS 34
theorem sc_count_of : FnScope ["mask", "bits"] ["mask"] (defScope s_count_of) := ⟨rfl, rfl, rfl, by decide +kernel, rfl, by decide +kernel, by decide +kernel⟩
abbrev s_near_masks : Stmt := topS 35
theorem sc_near_masks : FnScope ["book", "near", "things", "size", "lists", "whole", "thing"] ["book"] (defScope s_near_masks) := ⟨rfl, rfl, rfl, by decide +kernel, rfl, by decide +kernel, by decide +kernel⟩
abbrev s_check_list : Stmt := topS 37
theorem sc_check_list : FnScope ["size", "things", "k"] ["size", "things", "k"] (defScope s_check_list) := ⟨rfl, rfl, rfl, by decide +kernel, rfl, by decide +kernel, by decide +kernel⟩
abbrev s_tie_count : Stmt := topS 38
theorem sc_tie_count : FnScope ["lists", "spots", "things", "near", "thing", "whole", "mask"] ["lists"] (defScope s_tie_count) := ⟨rfl, rfl, rfl, by decide +kernel, rfl, by decide +kernel, by decide +kernel⟩
abbrev s_lets_book : Stmt := topS 39
theorem sc_lets_book : FnScope ["thing", "size", "lists", "k", "things"] ["thing"] (defScope s_lets_book) := ⟨rfl, rfl, rfl, by decide +kernel, rfl, by decide +kernel, by decide +kernel⟩
abbrev s_book_of : Stmt := topS 41
theorem sc_book_of : FnScope ["size", "lists", "k", "things"] ["size", "lists"] (defScope s_book_of) := ⟨rfl, rfl, rfl, by decide +kernel, rfl, by decide +kernel, by decide +kernel⟩
abbrev s_ties_of : Stmt := topS 42
theorem sc_ties_of : FnScope ["book", "near", "low", "high"] ["book"] (defScope s_ties_of) := ⟨rfl, rfl, rfl, by decide +kernel, rfl, by decide +kernel, by decide +kernel⟩
abbrev s_is_tied : Stmt := topS 43
theorem sc_is_tied : FnScope ["book", "here", "there"] ["book", "here", "there"] (defScope s_is_tied) := ⟨rfl, rfl, rfl, by decide +kernel, rfl, by decide +kernel, by decide +kernel⟩
abbrev s_near_of : Stmt := topS 44
theorem sc_near_of : FnScope ["book", "here"] ["book", "here"] (defScope s_near_of) := ⟨rfl, rfl, rfl, by decide +kernel, rfl, by decide +kernel, by decide +kernel⟩
abbrev s_between_in : Stmt := topS 45
theorem sc_between_in : FnScope ["near", "low", "high", "thing"] ["near", "low", "high"] (defScope s_between_in) := ⟨rfl, rfl, rfl, by decide +kernel, rfl, by decide +kernel, by decide +kernel⟩
abbrev s_between_of : Stmt := topS 46
theorem sc_between_of : FnScope ["book", "tie"] ["book", "tie"] (defScope s_between_of) := ⟨rfl, rfl, rfl, by decide +kernel, rfl, by decide +kernel, by decide +kernel⟩
abbrev s__law_take : Stmt := topS 48
theorem sc__law_take : FnScope ["_law_s", "_law_limit", "_law_cell", "_law_told"] ["_law_s", "_law_limit"] (defScope s__law_take) := ⟨rfl, rfl, rfl, by decide +kernel, rfl, by decide +kernel, by decide +kernel⟩
abbrev s__law_same : Stmt := topS 49
theorem sc__law_same : FnScope ["_law_one", "_law_other", "_law_k"] ["_law_one", "_law_other"] (defScope s__law_same) := ⟨rfl, rfl, rfl, by decide +kernel, rfl, by decide +kernel, by decide +kernel⟩
abbrev s__law_is_number : Stmt := topS 50
theorem sc__law_is_number : FnScope ["_law_thing", "_law_size"] ["_law_thing", "_law_size"] (defScope s__law_is_number) := ⟨rfl, rfl, rfl, by decide +kernel, rfl, by decide +kernel, by decide +kernel⟩
abbrev s__law_dealt : Stmt := topS 51
theorem sc__law_dealt : FnScope ["_law_s", "_law_size", "_law_left", "_law_line", "_law_k"] ["_law_s", "_law_size"] (defScope s__law_dealt) := ⟨rfl, rfl, rfl, by decide +kernel, rfl, by decide +kernel, by decide +kernel⟩
abbrev s__law_first : Stmt := topS 52
theorem sc__law_first : FnScope ["_law_s", "_law_size", "_law_rows", "_law_k"] ["_law_s"] (defScope s__law_first) := ⟨rfl, rfl, rfl, by decide +kernel, rfl, by decide +kernel, by decide +kernel⟩
abbrev s__law_windows : Stmt := topS 53
theorem sc__law_windows : FnScope ["_law_s", "_law_rows", "_law_k", "_law_last", "_law_shared"] ["_law_s"] (defScope s__law_windows) := ⟨rfl, rfl, rfl, by decide +kernel, rfl, by decide +kernel, by decide +kernel⟩
abbrev s__law_made : Stmt := topS 54
theorem sc__law_made : FnScope ["_law_size", "_law_rows", "_law_told", "_law_row"] ["_law_size", "_law_rows"] (defScope s__law_made) := ⟨rfl, rfl, rfl, by decide +kernel, rfl, by decide +kernel, by decide +kernel⟩
abbrev s__law_eight : Stmt := topS 55
theorem sc__law_eight : FnScope ["_law_due_here", "_law_told"] [] (defScope s__law_eight) := ⟨rfl, rfl, rfl, by decide +kernel, rfl, by decide +kernel, by decide +kernel⟩
abbrev s__law_due : Stmt := topS 56
theorem sc__law_due : FnScope ["_law_names", "_law_lists", "_law_row", "_law_x"] ["_law_names", "_law_lists"] (defScope s__law_due) := ⟨rfl, rfl, rfl, by decide +kernel, rfl, by decide +kernel, by decide +kernel⟩
abbrev s__law_pairs : Stmt := topS 57
theorem sc__law_pairs : FnScope ["_law_names", "_law_lists", "_law_found", "_law_k", "_law_held", "_law_n", "_law_row"] ["_law_names", "_law_lists"] (defScope s__law_pairs) := ⟨rfl, rfl, rfl, by decide +kernel, rfl, by decide +kernel, by decide +kernel⟩
abbrev s__law_do : Stmt := topS 58
theorem sc__law_do : FnScope ["_law_which", "_law_book", "_law_one", "_law_named"] ["_law_which", "_law_book", "_law_one", "_law_named"] (defScope s__law_do) := ⟨rfl, rfl, rfl, by decide +kernel, rfl, by decide +kernel, by decide +kernel⟩
abbrev s__law_deed : Stmt := topS 59
theorem sc__law_deed : FnScope ["_law_s", "_law_which", "_law_size", "_law_many", "_law_books"] ["_law_s", "_law_which", "_law_size", "_law_many"] (defScope s__law_deed) := ⟨rfl, rfl, rfl, by decide +kernel, rfl, by decide +kernel, by decide +kernel⟩
abbrev s__law_behind : Stmt := topS 60
theorem sc__law_behind : FnScope ["_law_which", "_law_names", "_law_lists", "_law_one", "_law_fresh", "_law_kept", "_law_rows", "_law_x", "_law_row"] ["_law_which", "_law_names", "_law_lists", "_law_one", "_law_fresh"] (defScope s__law_behind) := ⟨rfl, rfl, rfl, by decide +kernel, rfl, by decide +kernel, by decide +kernel⟩
abbrev s__law_is_row : Stmt := topS 61
theorem sc__law_is_row : FnScope ["_law_near", "_law_thing", "_law_x", "_law_k"] ["_law_near", "_law_thing"] (defScope s__law_is_row) := ⟨rfl, rfl, rfl, by decide +kernel, rfl, by decide +kernel, by decide +kernel⟩
abbrev s__law_kinds : Stmt := topS 62
theorem sc__law_kinds : FnScope ["_law_s", "_law_book", "_law_ties", "_law_near", "_law_size", "_law_asked", "_law_k", "_law_thing", "_law_due_here", "_law_here", "_law_row", "_law_n", "_law_above", "_law_x", "_law_tie"] ["_law_s", "_law_book", "_law_ties", "_law_near"] (defScope s__law_kinds) := ⟨rfl, rfl, rfl, by decide +kernel, rfl, by decide +kernel, by decide +kernel⟩
abbrev s__law_look : Stmt := topS 63
theorem sc__law_look : FnScope ["_law_s", "_law_book", "_law_names", "_law_lists", "_law_ties", "_law_near", "_law_tie", "_law_k", "_law_here", "_law_there", "_law_due_here", "_law_x", "_law_row"] ["_law_s", "_law_book", "_law_names", "_law_lists"] (defScope s__law_look) := ⟨rfl, rfl, rfl, by decide +kernel, rfl, by decide +kernel, by decide +kernel⟩
abbrev s__law_ask : Stmt := topS 64
theorem sc__law_ask : FnScope ["_law_which", "_law_book", "_law_one", "_law_named", "e"] ["_law_which", "_law_book", "_law_one", "_law_named"] (defScope s__law_ask) := ⟨rfl, rfl, rfl, by decide +kernel, rfl, by decide +kernel, by decide +kernel⟩
abbrev s__law_bad : Stmt := topS 65
theorem sc__law_bad : FnScope ["_law_s", "_law_which", "_law_book", "_law_size", "_law_off", "_law_rows", "_law_odd", "_law_good"] ["_law_s", "_law_which", "_law_book"] (defScope s__law_bad) := ⟨rfl, rfl, rfl, by decide +kernel, rfl, by decide +kernel, by decide +kernel⟩
abbrev s__law_refused : Stmt := topS 66
theorem sc__law_refused : FnScope ["_law_s", "_law_book", "_law_k", "_law_which", "_law_word", "_law_due_here", "_law_bad_here"] ["_law_s", "_law_book"] (defScope s__law_refused) := ⟨rfl, rfl, rfl, by decide +kernel, rfl, by decide +kernel, by decide +kernel⟩
abbrev s_law : Stmt := topS 67
theorem sc_law : FnScope ["_law_script", "_law_s", "_law_wide", "_law_made_here", "_law_names", "_law_lists", "_law_book", "_law_k", "_law_which", "_law_one", "_law_later", "_law_behind_here", "_law_cell"] ["_law_script"] (defScope s_law) := ⟨rfl, rfl, rfl, by decide +kernel, rfl, by decide +kernel, by decide +kernel⟩
/-- what the top has left: where each def stands; ad, fd by the places of the top's statements -/
structure Txt (K : PySem.W.Frag) (mg : Str → Option Value) (ad : Nat → Addr) (fd : Nat → FuncData) : Prop where
  g_isinstance : mg "isinstance" = none
  g_int : mg "int" = none
  g_bool : mg "bool" = none
  g_tuple : mg "tuple" = none
  g_str : mg "str" = none
  g_list : mg "list" = none
  g_len : mg "len" = none
  g_all : mg "all" = none
  g_any : mg "any" = none
  g_set : mg "set" = none
  g_sorted : mg "sorted" = none
  g_range : mg "range" = none
  g_enumerate : mg "enumerate" = none
  g_sum : mg "sum" = none
  g_min : mg "min" = none
  g_max : mg "max" = none
  g_abs : mg "abs" = none
  g_reversed : mg "reversed" = none
  m_is_integer : mg "is_integer" = some (.ref (ad 1))
  F_is_integer : Fun K "is_integer" "is_integer" s_is_integer (ad 1) (fd 1)
  m_is_number : mg "is_number" = some (.ref (ad 2))
  F_is_number : Fun K "is_number" "is_number" s_is_number (ad 2) (fd 2)
  m_is_below : mg "is_below" = some (.ref (ad 3))
  F_is_below : Fun K "is_below" "is_below" s_is_below (ad 3) (fd 3)
  m_is_rising : mg "is_rising" = some (.ref (ad 4))
  F_is_rising : Fun K "is_rising" "is_rising" s_is_rising (ad 4) (fd 4)
  m_are_below : mg "are_below" = some (.ref (ad 5))
  F_are_below : Fun K "are_below" "are_below" s_are_below (ad 5) (fd 5)
  m_are_unlike_below : mg "are_unlike_below" = some (.ref (ad 6))
  F_are_unlike_below : Fun K "are_unlike_below" "are_unlike_below" s_are_unlike_below (ad 6) (fd 6)
  m_is_lot : mg "is_lot" = some (.ref (ad 7))
  F_is_lot : Fun K "is_lot" "is_lot" s_is_lot (ad 7) (fd 7)
  m_is_line : mg "is_line" = some (.ref (ad 8))
  F_is_line : Fun K "is_line" "is_line" s_is_line (ad 8) (fd 8)
  m_is_listed : mg "is_listed" = some (.ref (ad 10))
  F_is_listed : Fun K "is_listed" "is_listed" s_is_listed (ad 10) (fd 10)
  m_is_book : mg "is_book" = some (.ref (ad 11))
  F_is_book : Fun K "is_book" "is_book" s_is_book (ad 11) (fd 11)
  m_are_tied : mg "are_tied" = some (.ref (ad 12))
  F_are_tied : Fun K "are_tied" "are_tied" s_are_tied (ad 12) (fd 12)
  m_is_thing : mg "is_thing" = some (.ref (ad 13))
  F_is_thing : Fun K "is_thing" "is_thing" s_is_thing (ad 13) (fd 13)
  m_is_tie : mg "is_tie" = some (.ref (ad 14))
  F_is_tie : Fun K "is_tie" "is_tie" s_is_tie (ad 14) (fd 14)
  m_is_row : mg "is_row" = some (.ref (ad 15))
  F_is_row : Fun K "is_row" "is_row" s_is_row (ad 15) (fd 15)
  m_need : mg "need" = some (.ref (ad 22))
  F_need : Fun K "need" "need" s_need (ad 22) (fd 22)
  m_kept_to : mg "kept_to" = some (.ref (ad 24))
  F_kept_to : Fun K "kept_to" "kept_to" s_kept_to (ad 24) (fd 24)
  m_with_list : mg "with_list" = some (.ref (ad 25))
  F_with_list : Fun K "with_list" "with_list" s_with_list (ad 25) (fd 25)
  m_without_list : mg "without_list" = some (.ref (ad 26))
  F_without_list : Fun K "without_list" "without_list" s_without_list (ad 26) (fd 26)
  m_beside : mg "beside" = some (.ref (ad 27))
  F_beside : Fun K "beside" "beside" s_beside (ad 27) (fd 27)
  m_renumbered : mg "renumbered" = some (.ref (ad 28))
  F_renumbered : Fun K "renumbered" "renumbered" s_renumbered (ad 28) (fd 28)
  m_rebased : mg "rebased" = some (.ref (ad 29))
  F_rebased : Fun K "rebased" "rebased" s_rebased (ad 29) (fd 29)
  m_mirrored : mg "mirrored" = some (.ref (ad 30))
  F_mirrored : Fun K "mirrored" "mirrored" s_mirrored (ad 30) (fd 30)
  m_mask_of : mg "mask_of" = some (.ref (ad 32))
  F_mask_of : Fun K "mask_of" "mask_of" s_mask_of (ad 32) (fd 32)
  m_things_of : mg "things_of" = some (.ref (ad 33))
  F_things_of : Fun K "things_of" "things_of" s_things_of (ad 33) (fd 33)
  m_count_of : mg "count_of" = some (.ref (ad 34))
  F_count_of : Fun K "count_of" "count_of" s_count_of (ad 34) (fd 34)
  m_near_masks : mg "near_masks" = some (.ref (ad 35))
  F_near_masks : Fun K "near_masks" "near_masks" s_near_masks (ad 35) (fd 35)
  m_check_list : mg "check_list" = some (.ref (ad 37))
  F_check_list : Fun K "check_list" "check_list" s_check_list (ad 37) (fd 37)
  m_tie_count : mg "tie_count" = some (.ref (ad 38))
  F_tie_count : Fun K "tie_count" "tie_count" s_tie_count (ad 38) (fd 38)
  m_lets_book : mg "lets_book" = some (.ref (ad 39))
  F_lets_book : Fun K "lets_book" "lets_book" s_lets_book (ad 39) (fd 39)
  m_book_of : mg "book_of" = some (.ref (ad 41))
  F_book_of : Fun K "book_of" "book_of" s_book_of (ad 41) (fd 41)
  m_ties_of : mg "ties_of" = some (.ref (ad 42))
  F_ties_of : Fun K "ties_of" "ties_of" s_ties_of (ad 42) (fd 42)
  m_is_tied : mg "is_tied" = some (.ref (ad 43))
  F_is_tied : Fun K "is_tied" "is_tied" s_is_tied (ad 43) (fd 43)
  m_near_of : mg "near_of" = some (.ref (ad 44))
  F_near_of : Fun K "near_of" "near_of" s_near_of (ad 44) (fd 44)
  m_between_in : mg "between_in" = some (.ref (ad 45))
  F_between_in : Fun K "between_in" "between_in" s_between_in (ad 45) (fd 45)
  m_between_of : mg "between_of" = some (.ref (ad 46))
  F_between_of : Fun K "between_of" "between_of" s_between_of (ad 46) (fd 46)
  m__law_take : mg "_law_take" = some (.ref (ad 48))
  F__law_take : Fun K "_law_take" "_law_take" s__law_take (ad 48) (fd 48)
  m__law_same : mg "_law_same" = some (.ref (ad 49))
  F__law_same : Fun K "_law_same" "_law_same" s__law_same (ad 49) (fd 49)
  m__law_is_number : mg "_law_is_number" = some (.ref (ad 50))
  F__law_is_number : Fun K "_law_is_number" "_law_is_number" s__law_is_number (ad 50) (fd 50)
  m__law_dealt : mg "_law_dealt" = some (.ref (ad 51))
  F__law_dealt : Fun K "_law_dealt" "_law_dealt" s__law_dealt (ad 51) (fd 51)
  m__law_first : mg "_law_first" = some (.ref (ad 52))
  F__law_first : Fun K "_law_first" "_law_first" s__law_first (ad 52) (fd 52)
  m__law_windows : mg "_law_windows" = some (.ref (ad 53))
  F__law_windows : Fun K "_law_windows" "_law_windows" s__law_windows (ad 53) (fd 53)
  m__law_made : mg "_law_made" = some (.ref (ad 54))
  F__law_made : Fun K "_law_made" "_law_made" s__law_made (ad 54) (fd 54)
  m__law_eight : mg "_law_eight" = some (.ref (ad 55))
  F__law_eight : Fun K "_law_eight" "_law_eight" s__law_eight (ad 55) (fd 55)
  m__law_due : mg "_law_due" = some (.ref (ad 56))
  F__law_due : Fun K "_law_due" "_law_due" s__law_due (ad 56) (fd 56)
  m__law_pairs : mg "_law_pairs" = some (.ref (ad 57))
  F__law_pairs : Fun K "_law_pairs" "_law_pairs" s__law_pairs (ad 57) (fd 57)
  m__law_do : mg "_law_do" = some (.ref (ad 58))
  F__law_do : Fun K "_law_do" "_law_do" s__law_do (ad 58) (fd 58)
  m__law_deed : mg "_law_deed" = some (.ref (ad 59))
  F__law_deed : Fun K "_law_deed" "_law_deed" s__law_deed (ad 59) (fd 59)
  m__law_behind : mg "_law_behind" = some (.ref (ad 60))
  F__law_behind : Fun K "_law_behind" "_law_behind" s__law_behind (ad 60) (fd 60)
  m__law_is_row : mg "_law_is_row" = some (.ref (ad 61))
  F__law_is_row : Fun K "_law_is_row" "_law_is_row" s__law_is_row (ad 61) (fd 61)
  m__law_kinds : mg "_law_kinds" = some (.ref (ad 62))
  F__law_kinds : Fun K "_law_kinds" "_law_kinds" s__law_kinds (ad 62) (fd 62)
  m__law_look : mg "_law_look" = some (.ref (ad 63))
  F__law_look : Fun K "_law_look" "_law_look" s__law_look (ad 63) (fd 63)
  m__law_ask : mg "_law_ask" = some (.ref (ad 64))
  F__law_ask : Fun K "_law_ask" "_law_ask" s__law_ask (ad 64) (fd 64)
  m__law_bad : mg "_law_bad" = some (.ref (ad 65))
  F__law_bad : Fun K "_law_bad" "_law_bad" s__law_bad (ad 65) (fd 65)
  m__law_refused : mg "_law_refused" = some (.ref (ad 66))
  F__law_refused : Fun K "_law_refused" "_law_refused" s__law_refused (ad 66) (fd 66)
  m_law : mg "law" = some (.ref (ad 67))
  F_law : Fun K "law" "law" s_law (ad 67) (fd 67)
  ox_InvalidPaper : OexC K (ad 20)
  m_InvalidPaper : mg "InvalidPaper" = some (.ref (ad 20))
  i_InvalidPaper : PySem.W.findIn K (.ref (ad 20)) "__init__" = some (some (.ref (ad 1020)))
  t_InvalidPaper : PySem.W.typeIn K (.ref (ad 1020)) = some (.type "function")
  F_init_InvalidPaper : Fun K "__init__" "InvalidPaper.__init__" (inClass (topS 20) 0) (ad 1020) (fd 1020)
  n_InvalidPaper_word : PySem.W.findIn K (.ref (ad 20)) "word" = some none
  n_InvalidPaper_at : PySem.W.findIn K (.ref (ad 20)) "at" = some none
  x_InvalidPaper : XfC K (ad 20)
  e_InvalidPaper : PySem.W.exmOne K (.ref (ad 20)) (.ref (ad 20)) = some true
  ox_NotUsable : OexC K (ad 21)
  m_NotUsable : mg "NotUsable" = some (.ref (ad 21))
  i_NotUsable : PySem.W.findIn K (.ref (ad 21)) "__init__" = some (some (.ref (ad 1021)))
  t_NotUsable : PySem.W.typeIn K (.ref (ad 1021)) = some (.type "function")
  F_init_NotUsable : Fun K "__init__" "NotUsable.__init__" (inClass (topS 21) 0) (ad 1021) (fd 1021)
  n_NotUsable_word : PySem.W.findIn K (.ref (ad 21)) "word" = some none
  n_NotUsable_at : PySem.W.findIn K (.ref (ad 21)) "at" = some none
  x_NotUsable : XfC K (ad 21)
  e_NotUsable : PySem.W.exmOne K (.ref (ad 21)) (.ref (ad 21)) = some true
section
variable {K : PySem.W.Frag} {mg : Str → Option Value} {ad : Nat → Addr} {fd : Nat → FuncData}
theorem b_is_integer (T : Txt K mg ad fd) : Binds K (fd 1) ["thing"] [] := T.F_is_integer.binds fun _ _ _ _ _ _ us hl => match us, hl with | [_], _ => rfl
theorem b_is_number (T : Txt K mg ad fd) : Binds K (fd 2) ["thing"] [] := T.F_is_number.binds fun _ _ _ _ _ _ us hl => match us, hl with | [_], _ => rfl
theorem b_is_below (T : Txt K mg ad fd) : Binds K (fd 3) ["size", "thing"] [] := T.F_is_below.binds fun _ _ _ _ _ _ us hl => match us, hl with | [_, _], _ => rfl
theorem b_is_rising (T : Txt K mg ad fd) : Binds K (fd 4) ["things"] [] := T.F_is_rising.binds fun _ _ _ _ _ _ us hl => match us, hl with | [_], _ => rfl
theorem b_are_below (T : Txt K mg ad fd) : Binds K (fd 5) ["size", "thing"] [] := T.F_are_below.binds fun _ _ _ _ _ _ us hl => match us, hl with | [_, _], _ => rfl
theorem b_are_unlike_below (T : Txt K mg ad fd) : Binds K (fd 6) ["size", "thing"] [] := T.F_are_unlike_below.binds fun _ _ _ _ _ _ us hl => match us, hl with | [_, _], _ => rfl
theorem b_is_lot (T : Txt K mg ad fd) : Binds K (fd 7) ["size", "thing"] [] := T.F_is_lot.binds fun _ _ _ _ _ _ us hl => match us, hl with | [_, _], _ => rfl
theorem b_is_line (T : Txt K mg ad fd) : Binds K (fd 8) ["size", "thing"] [] := T.F_is_line.binds fun _ _ _ _ _ _ us hl => match us, hl with | [_, _], _ => rfl
theorem b_is_listed (T : Txt K mg ad fd) : Binds K (fd 10) ["size", "thing"] [] := T.F_is_listed.binds fun _ _ _ _ _ _ us hl => match us, hl with | [_, _], _ => rfl
theorem b_is_book (T : Txt K mg ad fd) : Binds K (fd 11) ["thing"] [] := T.F_is_book.binds fun _ _ _ _ _ _ us hl => match us, hl with | [_], _ => rfl
theorem b_are_tied (T : Txt K mg ad fd) : Binds K (fd 12) ["book", "here", "there"] [] := T.F_are_tied.binds fun _ _ _ _ _ _ us hl => match us, hl with | [_, _, _], _ => rfl
theorem b_is_thing (T : Txt K mg ad fd) : Binds K (fd 13) ["book", "thing"] [] := T.F_is_thing.binds fun _ _ _ _ _ _ us hl => match us, hl with | [_, _], _ => rfl
theorem b_is_tie (T : Txt K mg ad fd) : Binds K (fd 14) ["book", "thing"] [] := T.F_is_tie.binds fun _ _ _ _ _ _ us hl => match us, hl with | [_, _], _ => rfl
theorem b_is_row (T : Txt K mg ad fd) : Binds K (fd 15) ["book", "thing"] [] := T.F_is_row.binds fun _ _ _ _ _ _ us hl => match us, hl with | [_, _], _ => rfl
theorem b_need (T : Txt K mg ad fd) : Binds K (fd 22) ["holds", "word"] [] := T.F_need.binds fun _ _ _ _ _ _ us hl => match us, hl with | [_, _], _ => rfl
theorem b_kept_to (T : Txt K mg ad fd) : Binds K (fd 24) ["book", "lot"] [] := T.F_kept_to.binds fun _ _ _ _ _ _ us hl => match us, hl with | [_, _], _ => rfl
theorem b_with_list (T : Txt K mg ad fd) : Binds K (fd 25) ["book", "things"] [] := T.F_with_list.binds fun _ _ _ _ _ _ us hl => match us, hl with | [_, _], _ => rfl
theorem b_without_list (T : Txt K mg ad fd) : Binds K (fd 26) ["book", "listed"] [] := T.F_without_list.binds fun _ _ _ _ _ _ us hl => match us, hl with | [_, _], _ => rfl
theorem b_beside (T : Txt K mg ad fd) : Binds K (fd 27) ["book", "other"] [] := T.F_beside.binds fun _ _ _ _ _ _ us hl => match us, hl with | [_, _], _ => rfl
theorem b_renumbered (T : Txt K mg ad fd) : Binds K (fd 28) ["book", "line"] [] := T.F_renumbered.binds fun _ _ _ _ _ _ us hl => match us, hl with | [_, _], _ => rfl
theorem b_rebased (T : Txt K mg ad fd) : Binds K (fd 29) ["book", "line"] [] := T.F_rebased.binds fun _ _ _ _ _ _ us hl => match us, hl with | [_, _], _ => rfl
theorem b_mirrored (T : Txt K mg ad fd) : Binds K (fd 30) ["book"] [] := T.F_mirrored.binds fun _ _ _ _ _ _ us hl => match us, hl with | [_], _ => rfl
theorem b_mask_of (T : Txt K mg ad fd) : Binds K (fd 32) ["things"] [] := T.F_mask_of.binds fun _ _ _ _ _ _ us hl => match us, hl with | [_], _ => rfl
theorem b_things_of (T : Txt K mg ad fd) : Binds K (fd 33) ["mask"] [] := T.F_things_of.binds fun _ _ _ _ _ _ us hl => match us, hl with | [_], _ => rfl
theorem b_count_of (T : Txt K mg ad fd) : Binds K (fd 34) ["mask"] [] := T.F_count_of.binds fun _ _ _ _ _ _ us hl => match us, hl with | [_], _ => rfl
theorem b_near_masks (T : Txt K mg ad fd) : Binds K (fd 35) ["book"] [] := T.F_near_masks.binds fun _ _ _ _ _ _ us hl => match us, hl with | [_], _ => rfl
theorem b_check_list (T : Txt K mg ad fd) : Binds K (fd 37) ["size", "things", "k"] [] := T.F_check_list.binds fun _ _ _ _ _ _ us hl => match us, hl with | [_, _, _], _ => rfl
theorem b_tie_count (T : Txt K mg ad fd) : Binds K (fd 38) ["lists"] [] := T.F_tie_count.binds fun _ _ _ _ _ _ us hl => match us, hl with | [_], _ => rfl
theorem b_lets_book (T : Txt K mg ad fd) : Binds K (fd 39) ["thing"] [] := T.F_lets_book.binds fun _ _ _ _ _ _ us hl => match us, hl with | [_], _ => rfl
theorem b_ties_of (T : Txt K mg ad fd) : Binds K (fd 42) ["book"] [] := T.F_ties_of.binds fun _ _ _ _ _ _ us hl => match us, hl with | [_], _ => rfl
theorem b_is_tied (T : Txt K mg ad fd) : Binds K (fd 43) ["book", "here", "there"] [] := T.F_is_tied.binds fun _ _ _ _ _ _ us hl => match us, hl with | [_, _, _], _ => rfl
theorem b_near_of (T : Txt K mg ad fd) : Binds K (fd 44) ["book", "here"] [] := T.F_near_of.binds fun _ _ _ _ _ _ us hl => match us, hl with | [_, _], _ => rfl
theorem b_between_in (T : Txt K mg ad fd) : Binds K (fd 45) ["near", "low", "high"] [] := T.F_between_in.binds fun _ _ _ _ _ _ us hl => match us, hl with | [_, _, _], _ => rfl
theorem b_between_of (T : Txt K mg ad fd) : Binds K (fd 46) ["book", "tie"] [] := T.F_between_of.binds fun _ _ _ _ _ _ us hl => match us, hl with | [_, _], _ => rfl
theorem b__law_take (T : Txt K mg ad fd) : Binds K (fd 48) ["_law_s", "_law_limit"] [] := T.F__law_take.binds fun _ _ _ _ _ _ us hl => match us, hl with | [_, _], _ => rfl
theorem b__law_same (T : Txt K mg ad fd) : Binds K (fd 49) ["_law_one", "_law_other"] [] := T.F__law_same.binds fun _ _ _ _ _ _ us hl => match us, hl with | [_, _], _ => rfl
theorem b__law_is_number (T : Txt K mg ad fd) : Binds K (fd 50) ["_law_thing", "_law_size"] [] := T.F__law_is_number.binds fun _ _ _ _ _ _ us hl => match us, hl with | [_, _], _ => rfl
theorem b__law_dealt (T : Txt K mg ad fd) : Binds K (fd 51) ["_law_s", "_law_size"] [] := T.F__law_dealt.binds fun _ _ _ _ _ _ us hl => match us, hl with | [_, _], _ => rfl
theorem b__law_first (T : Txt K mg ad fd) : Binds K (fd 52) ["_law_s"] [] := T.F__law_first.binds fun _ _ _ _ _ _ us hl => match us, hl with | [_], _ => rfl
theorem b__law_windows (T : Txt K mg ad fd) : Binds K (fd 53) ["_law_s"] [] := T.F__law_windows.binds fun _ _ _ _ _ _ us hl => match us, hl with | [_], _ => rfl
theorem b__law_made (T : Txt K mg ad fd) : Binds K (fd 54) ["_law_size", "_law_rows"] [] := T.F__law_made.binds fun _ _ _ _ _ _ us hl => match us, hl with | [_, _], _ => rfl
theorem b__law_eight (T : Txt K mg ad fd) : Binds K (fd 55) [] [] := T.F__law_eight.binds fun _ _ _ _ _ _ us hl => match us, hl with | [], _ => rfl
theorem b__law_due (T : Txt K mg ad fd) : Binds K (fd 56) ["_law_names", "_law_lists"] [] := T.F__law_due.binds fun _ _ _ _ _ _ us hl => match us, hl with | [_, _], _ => rfl
theorem b__law_pairs (T : Txt K mg ad fd) : Binds K (fd 57) ["_law_names", "_law_lists"] [] := T.F__law_pairs.binds fun _ _ _ _ _ _ us hl => match us, hl with | [_, _], _ => rfl
theorem b__law_do (T : Txt K mg ad fd) : Binds K (fd 58) ["_law_which", "_law_book", "_law_one", "_law_named"] [] := T.F__law_do.binds fun _ _ _ _ _ _ us hl => match us, hl with | [_, _, _, _], _ => rfl
theorem b__law_deed (T : Txt K mg ad fd) : Binds K (fd 59) ["_law_s", "_law_which", "_law_size", "_law_many"] [] := T.F__law_deed.binds fun _ _ _ _ _ _ us hl => match us, hl with | [_, _, _, _], _ => rfl
theorem b__law_behind (T : Txt K mg ad fd) : Binds K (fd 60) ["_law_which", "_law_names", "_law_lists", "_law_one", "_law_fresh"] [] := T.F__law_behind.binds fun _ _ _ _ _ _ us hl => match us, hl with | [_, _, _, _, _], _ => rfl
theorem b__law_is_row (T : Txt K mg ad fd) : Binds K (fd 61) ["_law_near", "_law_thing"] [] := T.F__law_is_row.binds fun _ _ _ _ _ _ us hl => match us, hl with | [_, _], _ => rfl
theorem b__law_kinds (T : Txt K mg ad fd) : Binds K (fd 62) ["_law_s", "_law_book", "_law_ties", "_law_near"] [] := T.F__law_kinds.binds fun _ _ _ _ _ _ us hl => match us, hl with | [_, _, _, _], _ => rfl
theorem b__law_look (T : Txt K mg ad fd) : Binds K (fd 63) ["_law_s", "_law_book", "_law_names", "_law_lists"] [] := T.F__law_look.binds fun _ _ _ _ _ _ us hl => match us, hl with | [_, _, _, _], _ => rfl
theorem b__law_ask (T : Txt K mg ad fd) : Binds K (fd 64) ["_law_which", "_law_book", "_law_one", "_law_named"] [] := T.F__law_ask.binds fun _ _ _ _ _ _ us hl => match us, hl with | [_, _, _, _], _ => rfl
theorem b__law_bad (T : Txt K mg ad fd) : Binds K (fd 65) ["_law_s", "_law_which", "_law_book"] [] := T.F__law_bad.binds fun _ _ _ _ _ _ us hl => match us, hl with | [_, _, _], _ => rfl
theorem b__law_refused (T : Txt K mg ad fd) : Binds K (fd 66) ["_law_s", "_law_book"] [] := T.F__law_refused.binds fun _ _ _ _ _ _ us hl => match us, hl with | [_, _], _ => rfl
theorem b_law (T : Txt K mg ad fd) : Binds K (fd 67) ["_law_script"] [] := T.F_law.binds fun _ _ _ _ _ _ us hl => match us, hl with | [_], _ => rfl
abbrev s_init_InvalidPaper : Stmt := inClass (topS 20) 0
theorem sc_init_InvalidPaper : FnScope ["self", "word", "at"] ["self", "word", "at"] (defScope s_init_InvalidPaper) := ⟨rfl, rfl, rfl, by decide +kernel, rfl, by decide +kernel, by decide +kernel⟩
theorem b_init_InvalidPaper (T : Txt K mg ad fd) : Binds K (fd 1020) ["self", "word", "at"] [] := T.F_init_InvalidPaper.binds fun _ _ _ _ _ _ us hl => match us, hl with | [_, _, _], _ => rfl
abbrev s_init_NotUsable : Stmt := inClass (topS 21) 0
theorem sc_init_NotUsable : FnScope ["self", "word", "at"] ["self", "word", "at"] (defScope s_init_NotUsable) := ⟨rfl, rfl, rfl, by decide +kernel, rfl, by decide +kernel, by decide +kernel⟩
theorem b_init_NotUsable (T : Txt K mg ad fd) : Binds K (fd 1021) ["self", "word", "at"] [] := T.F_init_NotUsable.binds fun _ _ _ _ _ _ us hl => match us, hl with | [_, _, _], _ => rfl
end
end LK
namespace LK
open PySem PySem.Spec PyProof.Rows L2
theorem idxOf_le : ∀ {l : List Int} {m : Nat} {z : Int}, l[m]? = some z → l.idxOf z ≤ m
  | [], m, z, h => by simp at h
  | a :: l, 0, z, h => by
    have e : a = z := by simpa using h
    subst e
    simp
  | a :: l, m + 1, z, h => by
    have ih := idxOf_le (l := l) (m := m) (z := z) (by simpa using h)
    rw [List.idxOf_cons]
    cases a == z with
    | true => exact Nat.zero_le _
    | false => simpa using ih
/-! ### lists of ints -/
def dLst (ns : List Int) : PyData := .list (ns.map .int)
def LstI (K : PySem.W.Frag) (H : Hp) (a : Addr) (ns : List Int) : Prop := SqL K H a (ns.map V.int) ∧ ns.length ≤ 1000
theorem LstI.rp {K : PySem.W.Frag} {H : Hp} {a : Addr} {ns : List Int} (h : LstI K H a ns) : Rp K H (.ref a) (dLst ns) := .lst h.1 (by rw [List.length_map]; exact h.2) (RpAll.ints ns)
theorem LstI.same {K : PySem.W.Frag} {H H' : Hp} {a : Addr} {ns : List Int} (e : Same H H') (h : LstI K H a ns) : LstI K H' a ns := ⟨e.seq h.1, h.2⟩
theorem Rp.lstI {K : PySem.W.Frag} {H : Hp} {v : V} {ns : List Int} (h : Rp K H v (dLst ns)) : ∃ a, v = .ref a ∧ LstI K H a ns := by
  generalize hd : dLst ns = d at h
  cases h with
  | @lst a xs ds s l r =>
    have e : ds = ns.map PyData.int := by
      unfold dLst at hd
      injection hd with hd
      exact hd.symm
    subst e
    have ex := r.ofInts
    subst ex
    exact ⟨a, rfl, s, by rw [List.length_map] at l; exact l⟩
  | _ => exact absurd hd (by simp [dLst])
theorem Rp.lstA {K : PySem.W.Frag} {H : Hp} {v : V} {ds : List PyData} (h : Rp K H v (.list ds)) : ∃ a xs, v = .ref a ∧ SqL K H a xs ∧ xs.length ≤ 1000 ∧ RpAll K H xs ds := by
  cases h with
  | lst s l r => exact ⟨_, _, rfl, s, l, r⟩
theorem Rp.tupA {K : PySem.W.Frag} {H : Hp} {v : V} {ds : List PyData} (h : Rp K H v (.tuple ds)) : ∃ a xs, v = .ref a ∧ SqT K H a xs ∧ xs.length ≤ 1000 ∧ RpAll K H xs ds := by
  cases h with
  | tup s l r => exact ⟨_, _, rfl, s, l, r⟩
theorem RpAll.rowL {K : PySem.W.Frag} {H : Hp} {xs : List V} {rows : List (List Int)} {i : Nat} {x : V} (r : RpAll K H xs (rows.map dLst)) (h : xs[i]? = some x) : ∃ ns a, rows[i]? = some ns ∧ x = .ref a ∧ LstI K H a ns := by
  obtain ⟨d, hd, rd⟩ := r.get h
  rw [List.getElem?_map] at hd
  cases e : rows[i]? with
  | none => rw [e] at hd; cases hd
  | some ns =>
    rw [e] at hd
    have ed := (Option.some.inj hd).symm
    subst ed
    obtain ⟨a, rfl, t⟩ := rd.lstI
    exact ⟨ns, a, rfl, rfl, t⟩
section
variable {P : Program} {w : World} {K : PySem.W.Frag} {mg : Str → Option Value} {base : Heap} {ad : Nat → Addr} {fd : Nat → FuncData}
theorem ok__law_is_number (T : Txt K mg ad fd) : FnOk P w K mg base CX0 1 (ad 50) (fd 50) ["_law_thing", "_law_size"] (fun vs H Q _ => ∃ v d n, vs = [v, .int n] ∧ Rp K H v d ∧ Q (.bl (isBelow n d)) H) := by
  refine T.F__law_is_number.ok sc__law_is_number (fun vs H Q E h => ?_) (fun cdv A outer s H vs Q E hr h => ?_)
  · obtain ⟨v, d, n, rfl, _⟩ := h
    rfl
  · obtain ⟨v, d, n, rfl, hv, k⟩ := h
    refine ⟨_, (pss_one (ps_ret (pe_and (pe_callB (isiR K) (by rfl) T.g_isinstance (by decide +kernel) (pa_cons (pv 0) (pa_cons (pe_bltn (v := .ty "int") (by rfl) T.g_int (by decide +kernel) rfl) pa_nil))) (pe_and (pe_not (pe_callB (isiR K) (by rfl) T.g_isinstance (by decide +kernel) (pa_cons (pv 0) (pa_cons (pe_bltn (v := .ty "bool") (by rfl) T.g_bool (by decide +kernel) rfl) pa_nil)))) (pe_one (pe_chain op_le op_lt pe_int (pv 0) (pv 1))))))), ?_⟩
    refine ⟨v, rfl, v, .ty "int", _, _, _, rfl, .ty _, hv.ty, isi_int hv, _, rfl, ?_⟩
    have hv0 := hv
    cases hv with
    | int i =>
      refine iteT ⟨_, rfl, .int i, .ty "bool", _, _, _, rfl, .ty _, hv0.ty, isi_bool hv0, _, rfl, _, rfl, iteT ?_⟩
      have k' : Q (.bl (decide (0 ≤ i ∧ i < n))) H := k
      refine ⟨_, rfl, _, _, rfl, rfl, _, rfl, ?_⟩
      by_cases c : 0 ≤ i
      · rw [decide_eq_true c]
        refine iteT ⟨_, rfl, _, _, rfl, rfl, ?_⟩
        have e : decide (i < n) = decide (0 ≤ i ∧ i < n) := by simp [c]
        show Q (.bl (decide (i < n))) H
        rw [e]
        exact k'
      · rw [decide_eq_false c]
        refine iteF ?_
        have e : false = decide (0 ≤ i ∧ i < n) := by simp [c]
        show Q (.bl false) H
        rw [e]
        exact k'
    | bl c => exact iteT ⟨_, rfl, .bl c, .ty "bool", _, _, _, rfl, .ty _, hv0.ty, isi_bool hv0, _, rfl, _, rfl, iteF k⟩
    | _ => exact iteF k
theorem ok__law_due (T : Txt K mg ad fd) : FnOk P w K mg base CX0 1 (ad 56) (fd 56) ["_law_names", "_law_lists"]
    (fun vs H Q _ => ∃ v u names rows, vs = [v, u] ∧ Rp K H v (dLst names) ∧ Rp K H u (.list (rows.map dLst)) ∧ (∀ r ∈ rows, ∀ x ∈ r, x ∈ names) ∧ ∀ z H', Same H H' → Rp K H' z (bookD names.length (renum names rows)) → Q z H') := by
  refine T.F__law_due.ok sc__law_due (fun vs H Q E h => ?_) (fun cdv A outer s H vs Q E hr h => ?_)
  · obtain ⟨v, u, names, rows, rfl, _⟩ := h
    rfl
  · obtain ⟨v, u, names, rows, rfl, hv, hu, hin, k⟩ := h
    refine ⟨_, (pss_one (ps_ret (pe_tup (pa_cons (pe_callB (lenS K) (by rfl) T.g_len (by decide +kernel) (pa_cons (pv 0) pa_nil)) (pa_cons (pe_callTy (tupOf K) (by rfl) T.g_tuple (by decide +kernel) (pa_cons (pe_lc (own := [("_law_row", 2)]) (g := gName 2) rfl sc__law_due.nd (piL K (pv 1)) (blkOk_by (N := ["_law_names", "_law_lists", "_law_row", "_law_x"]) (sc := defScope s__law_due) (by decide +kernel)) (fun _ _ _ _ _ => (pg_name (i := 2) (x := "_law_row") sc__law_due.nd rfl (Or.inl rfl))) (fun _ _ _ _ _ => pts_nil) (fun _ _ _ _ _ => (pe_callTy (tupOf K) (by rfl) T.g_tuple (by decide +kernel) (pa_cons (pe_callB (srtI K) (by rfl) T.g_sorted (by decide +kernel) (pa_cons (pe_lc (own := [("_law_x", 3)]) (g := gName 3) rfl sc__law_due.nd (piL K (pv 2)) (blkOk_by (N := ["_law_names", "_law_lists", "_law_row", "_law_x"]) (sc := { kind := PySem.ScopeKind.function, names := [ (PySem.Str.ofString ".0", PySem.NameKind.local), (PySem.Str.ofString "_law_row", PySem.NameKind.local), (PySem.Str.ofString "tuple", PySem.NameKind.globalImplicit), (PySem.Str.ofString "sorted", PySem.NameKind.globalImplicit), (PySem.Str.ofString "_law_names", PySem.NameKind.cell)], isGenerator := false, isCoroutine := false, more := [] : PySem.Scope }) (by decide +kernel)) (fun _ _ _ _ _ => (pg_name (i := 3) (x := "_law_x") sc__law_due.nd rfl (Or.inl rfl))) (fun _ _ _ _ _ => pts_nil) (fun _ _ _ _ _ => (pe_bmK K PySem.F.plainAttrs_list PySem.F.slot_list_index PySem.F.type_list_index (mtIndex K) (pv 0) (pa_cons (pv 3) pa_nil)))) pa_nil)) pa_nil)))) pa_nil)) pa_nil))))), ?_⟩
    obtain ⟨a, rfl, ta⟩ := hv.lstI
    obtain ⟨L, xs, rfl, hL, hz, hr2⟩ := hu.lstA
    have lx : xs.length = rows.length := by rw [hr2.length, List.length_map]
    refine ⟨_, rfl, a, _, rfl, .inl ta.1, _, rfl, L, rfl, ⟨_, hL⟩, fun D hD => ?_⟩
    refine lcL (K := K) (xs := xs) (fun _ => true) (fun j => dTup (srt ((rows.getD j []).map fun x => ((names.idxOf x : Nat) : Int)))) hD hL hz (fun j _ _ => noL_dTup _) (fun i v H2 hi s2 Q1 Q2 k1 k2 => ?_) (fun ys H2 s2 hy r2 => ?_)
    · obtain ⟨ns, a2, hn, rfl, t⟩ := hr2.rowL hi
      have t := t.same s2
      have hmem := hin ns (List.mem_of_getElem? hn)
      have en : rows.getD i [] = ns := by rw [List.getD_eq_getElem?_getD, hn]; rfl
      rw [en] at k1
      refine ⟨rfl, _, rfl, a2, rfl, ⟨_, t.1⟩, fun D3 hD3 => ?_⟩
      refine lcL (K := K) (xs := ns.map V.int) (fun _ => true) (fun j => .int ((names.idxOf (ns.getD j 0) : Nat) : Int)) hD3 t.1 (by rw [List.length_map]; exact t.2) (fun _ _ _ => rfl) (fun j v H3 hj s3 Q3 Q4 k3 k4 => ?_) (fun zs H3 s3 hz3 r3 => ?_)
      · have hl3 : j < ns.length := by
          have := (List.getElem?_eq_some_iff.mp hj).1
          simpa using this
        have ev : v = .int (ns.getD j 0) := by
          rw [mapD hl3] at hj
          exact (Option.some.inj hj).symm
        subst ev
        have hm : ns.getD j 0 ∈ names := by
          rw [List.getD_eq_getElem?_getD, List.getElem?_eq_getElem hl3]
          exact hmem _ (List.getElem_mem hl3)
        have ta3 := ta.same (s2.trans s3)
        generalize ns.getD j 0 = z at hm k3 ⊢
        have hlt : names.idxOf z < names.length := List.idxOf_lt_length_of_mem hm
        refine ⟨rfl, _, rfl, .inl ⟨rfl, _, ta3.1⟩, _, rfl, a, names.map V.int, .int z, names.idxOf z, .int z, rfl, rfl, ta3.1, rfl, flat_ints _, ?_, ?_, fun m z' hm' hz' => ?_, k3 rfl _ _ (Same.refl _) (.int _)⟩
        · rw [List.getElem?_map, List.getElem?_eq_getElem hlt, List.getElem_idxOf hlt]
          rfl
        · unfold eqV
          simp
        · rw [List.getElem?_map] at hz'
          cases e : names[m]? with
          | none => rw [e] at hz'; cases hz'
          | some y =>
            rw [e] at hz'
            have ez := (Option.some.inj hz').symm
            subst ez
            unfold eqV
            refine decide_eq_false fun q => ?_
            have q2 : y = z := q
            subst q2
            have := idxOf_le e
            omega
      · rw [filter_true] at r3
        have ez : (List.range (ns.map V.int).length).map (fun j => PyData.int ((names.idxOf (ns.getD j 0) : Nat) : Int)) = (ns.map fun x => ((names.idxOf x : Nat) : Int)).map PyData.int := by
          rw [List.length_map, List.map_map]
          exact map_range (fun x => PyData.int ((names.idxOf x : Nat) : Int)) 0 ns
        rw [ez] at r3
        have := r3.ofInts
        subst this
        refine ⟨D3, _, rfl, SqL.of hz3, fun ns' q pm pw hq => ?_⟩
        have en2 := srt_eq pm pw
        subst en2
        dsimp only [tNil]
        refine tupL_use (SqL.of upd_same) fun p H4 s4 hp => ?_
        exact k1 rfl _ _ ((s3.trans (same_upd hq)).trans s4) (TupI.rp ⟨hp, by rw [srt_length, List.length_map]; exact t.2⟩)
    · rw [filter_true] at r2
      have ez : (List.range xs.length).map (fun j => dTup (srt ((rows.getD j []).map fun x => ((names.idxOf x : Nat) : Int)))) = (renum names rows).map dTup := by
        rw [lx]
        unfold renum
        rw [List.map_map]
        exact map_range (fun r : List Int => dTup (srt (r.map fun x => ((names.idxOf x : Nat) : Int)))) [] rows
      rw [ez] at r2
      have ly : ys.length ≤ 1000 := by
        rw [r2.length, List.length_map]
        unfold renum
        rw [List.length_map]
        omega
      dsimp only [tNil]
      refine tupL_use (SqL.of hy) fun p H4 s4 hp => ⟨(by show 2 ≤ sizeLine; decide), fun z hz4 => ?_⟩
      refine k _ _ ((s2.trans s4).trans (same_upd hz4)) ?_
      rw [List.length_map]
      exact rp_bookNew hp ly (r2.same s4) hz4
end
end LK
namespace LK
open PySem PySem.Spec PyProof.Rows L2
def chainL (nr : List (List Int)) : List Int → Bool
  | [] => true
  | [_] => true
  | a :: b :: r => (decide (a < b) && decide (b ∈ nr.getD a.toNat [])) && chainL nr (b :: r)
def isRowL (nr : List (List Int)) (d : PyData) : Bool := areBelow nr.length d && decide (2 ≤ (dInts d).length) && chainL nr (dInts d)
theorem chainL_of {nr : List (List Int)} : ∀ {ns : List Int}, (∀ (j : Nat) (a b : Int), ns[j]? = some a → ns[j + 1]? = some b → a < b ∧ b ∈ nr.getD a.toNat []) → chainL nr ns = true
  | [], _ => rfl
  | [_], _ => rfl
  | a :: b :: r, h => by
    have h1 := h 0 a b rfl rfl
    have ih := chainL_of (nr := nr) (ns := b :: r) fun j x y hx hy => h (j + 1) x y (by simpa using hx) (by simpa using hy)
    unfold chainL
    rw [ih, decide_eq_true h1.1, decide_eq_true h1.2]
    rfl
theorem chainL_not {nr : List (List Int)} : ∀ {ns : List Int} {j : Nat} {a b : Int}, ns[j]? = some a → ns[j + 1]? = some b → ¬ (a < b ∧ b ∈ nr.getD a.toNat []) → chainL nr ns = false
  | [], j, a, b, h, _, _ => by simp at h
  | [_], j, a, b, _, h, _ => by simp at h
  | x :: y :: r, 0, a, b, ha, hb, hn => by
    have e1 : x = a := by simpa using ha
    have e2 : y = b := by simpa using hb
    subst e1 e2
    unfold chainL
    have : (decide (x < y) && decide (y ∈ nr.getD x.toNat [])) = false := by
      cases c : (decide (x < y) && decide (y ∈ nr.getD x.toNat [])) with
      | false => rfl
      | true =>
        rw [Bool.and_eq_true, decide_eq_true_eq, decide_eq_true_eq] at c
        exact absurd c hn
    rw [this]
    rfl
  | x :: y :: r, j + 1, a, b, ha, hb, hn => by
    have ih := chainL_not (nr := nr) (ns := y :: r) (j := j) (a := a) (b := b) (by simpa using ha) (by simpa using hb) hn
    unfold chainL
    rw [ih, Bool.and_false]
section
variable {P : Program} {w : World} {K : PySem.W.Frag} {mg : Str → Option Value} {base : Heap} {ad : Nat → Addr} {fd : Nat → FuncData}
theorem ok__law_is_row (T : Txt K mg ad fd) : FnOk P w K mg base CX0 2 (ad 61) (fd 61) ["_law_near", "_law_thing"]
    (fun vs H Q _ => ∃ v u nr d, vs = [v, u] ∧ Rp K H v (.list (nr.map dLst)) ∧ Rp K H u d ∧ ∀ H', Same H H' → Q (.bl (isRowL nr d)) H') := by
  refine T.F__law_is_row.ok sc__law_is_row (fun vs H Q E h => ?_) (fun cdv A outer s H vs Q E hr h => ?_)
  · obtain ⟨v, u, nr, d, rfl, _⟩ := h
    rfl
  · obtain ⟨v, u, nr, d, rfl, hv, hu, k⟩ := h
    obtain ⟨L, xs, rfl, hL, hz, hr2⟩ := hv.lstA
    have lx : xs.length = nr.length := by rw [hr2.length, List.length_map]
    refine ⟨_, (pss_cons (ps_if (PW.pt (pw_or (pt_not (pt_val (pe_callB (isiR K) (by rfl) T.g_isinstance (by decide +kernel) (pa_cons (pv 1) (pa_cons (pe_bltn (v := .ty "tuple") (by rfl) T.g_tuple (by decide +kernel) rfl) pa_nil))))) (pw_or1 (pt_cmpR op_lt (pe_callB (lenS K) (by rfl) T.g_len (by decide +kernel) (pa_cons (pv 1) pa_nil)) pe_int (nomark _))))) (pss_one (ps_ret pe_bl))
  pss_nil)
  (pss_cons (ps_for PassesOwn.never rfl (piT K (pv 1)) (pg_name (i := 2) (x := "_law_x") sc__law_is_row.nd rfl (Or.inl rfl))
  (pss_one (ps_if (pt_not (pt_val (pe_call (ok__law_is_number T) (hr.mono (by decide)) rfl T.m__law_is_number T.F__law_is_number.kp (b__law_is_number T) .nil pass0 (pa_cons (pv 2) (pa_cons (pe_callB (lenS K) (by rfl) T.g_len (by decide +kernel) (pa_cons (pv 0) pa_nil)) pa_nil))))) (pss_one (ps_ret pe_bl))
  pss_nil)))
  (pss_cons (ps_for PassesOwn.never rfl (pi_range2 rfl T.g_range (pa_cons pe_int (pa_cons (pe_callB (lenS K) (by rfl) T.g_len (by decide +kernel) (pa_cons (pv 1) pa_nil)) pa_nil))) (pg_name (i := 3) (x := "_law_k") sc__law_is_row.nd rfl (Or.inl rfl))
  (pss_one (ps_if (PW.pt (pw_or (pt_cmpR op_le (pe_ix (ixT K) (pv 1) (pv 3) (fun _ _ => rfl)) (pe_ix (ixT K) (pv 1) (pe_op op_sub (pv 3) pe_int) (fun _ _ => rfl)) (nomark _)) (pw_or1 (pt_cmpR (notInS K) (pe_ix (ixT K) (pv 1) (pv 3) (fun _ _ => rfl)) (pe_ix (ixL K) (pv 0) (pe_ix (ixT K) (pv 1) (pe_op op_sub (pv 3) pe_int) (fun _ _ => rfl)) (fun _ _ => rfl)) (by with_unfolding_all rfl))))) (pss_one (ps_ret pe_bl))
  pss_nil)))
  (pss_one (ps_ret pe_bl))))), ?_⟩
    have k' : ∀ b, b = isRowL nr d → ∀ H', Same H H' → Q (.bl b) H' := fun b e => by rw [e]; exact k
    refine ⟨_, rfl, u, .ty "tuple", _, _, _, rfl, .ty _, hu.ty, isi_tuple hu, _, rfl, ?_⟩
    have hu0 := hu
    cases hu with
    | @tup a ys es sy ly ry =>
      refine iteF ⟨_, rfl, a, _, rfl, .inr sy, _, _, rfl, rfl, _, rfl, ?_⟩
      have l2 := ry.length
      by_cases c : ys.length < 2
      · rw [decide_eq_true (show ((ys.length : Nat) : Int) < 2 by omega)]
        refine iteT (k' false ?_ _ (Same.refl _))
        unfold isRowL dInts
        have : ¬ 2 ≤ es.length := by omega
        simp [this]
      rw [decide_eq_false (show ¬ ((ys.length : Nat) : Int) < 2 by omega)]
      refine iteF ⟨_, rfl, a, rfl, ⟨_, sy⟩, for_tup (K := K) (a := a) (xs := ys) (fun i σ H1 => ∃ v2 v3, σ = [some (.ref L), some (.ref a), v2, v3] ∧ Same H H1 ∧ ∀ j d, j < i → es[j]? = some d → isBelow nr.length d = true)
        ⟨none, none, rfl, Same.refl _, fun j d hj => absurd hj (Nat.not_lt_zero _)⟩ (fun i σ H1 _ ⟨_, _, _, s1, _⟩ => seqT s1 sy) (fun i x σ H1 hi ⟨v2, v3, e1, s1, hp⟩ => ?_) (fun σ H1 ⟨v2, v3, e1, s1, hp⟩ => ?_)⟩
      · subst e1
        obtain ⟨dl, hd, rd⟩ := ry.get hi
        refine ⟨_, rfl, _, rfl, L, _, rfl, .inl (s1.seq hL), x, dl, _, rfl, rd.same s1, _, rfl, ?_⟩
        rw [lx]
        cases c2 : isBelow nr.length dl with
        | false =>
          refine iteT (k' false ?_ _ s1)
          have : areBelow nr.length (.tuple es) = false := by
            show es.all (isBelow nr.length) = false
            exact List.all_eq_false.mpr ⟨dl, List.mem_of_getElem? hd, by rw [c2]; decide⟩
          unfold isRowL
          rw [this]
          rfl
        | true =>
          refine iteF ⟨_, _, rfl, s1, fun j d hj hd2 => ?_⟩
          by_cases ej : j = i
          · subst ej
            rw [hd] at hd2
            cases hd2
            exact c2
          · exact hp j d (by omega) hd2
      · subst e1
        have hb : areBelow nr.length (.tuple es) = true := by
          show es.all (isBelow nr.length) = true
          refine List.all_eq_true.mpr fun d hd => ?_
          obtain ⟨j, hj⟩ := List.getElem?_of_mem hd
          exact hp j d (by have := (List.getElem?_eq_some_iff.mp hj).1; omega) hj
        have ed := areBelow_tup hb
        generalize hns : dInts (.tuple es) = ns at *
        have ees : es = ns.map PyData.int := by
          unfold dTup at ed
          injection ed
        subst ees
        have eys := ry.ofInts
        subst eys
        have hin : ∀ x ∈ ns, 0 ≤ x ∧ x < (nr.length : Nat) := by
          replace hb : (ns.map PyData.int).all (isBelow nr.length) = true := hb
          rw [List.all_map] at hb
          intro x hx
          have := List.all_eq_true.mp hb x hx
          simpa [isBelow] using this
        rw [List.length_map] at c ly
        have ek : isRowL nr (.tuple (ns.map .int)) = chainL nr ns := by
          unfold isRowL
          rw [hb, hns]
          have : 2 ≤ ns.length := by omega
          simp [this]
        rw [ek] at k'
        have el : (((ns.map V.int).length : Int) - 1).toNat = ns.length - 1 := by rw [List.length_map]; omega
        refine ⟨_, rfl, a, _, rfl, .inr (seqT s1 sy), 1, _, rfl, ?_, ?_⟩
        · rw [List.length_map]
          exact ⟨by decide, by decide, by omega, by omega⟩
        · rw [el]
          refine for_range (lo := 1) (fun i σ H2 => ∃ v2 v3, σ = [some (.ref L), some (.ref a), v2, v3] ∧ Same H H2 ∧ ∀ j x y, j < i → ns[j]? = some x → ns[j + 1]? = some y → x < y ∧ y ∈ nr.getD x.toNat [])
            ⟨_, _, rfl, s1, fun j _ _ hj => absurd hj (Nat.not_lt_zero _)⟩ (fun i σ H2 hi ⟨v22, v32, e2, s2, hp2⟩ => ?_) (fun σ H2 ⟨v22, v32, e2, s2, hp2⟩ => ?_)
          · subst e2
            have g1 : (ns.map V.int)[i]? = some (.int (ns.getD i 0)) := mapD (by omega)
            have g2 : (ns.map V.int)[i + 1]? = some (.int (ns.getD (i + 1) 0)) := mapD (by omega)
            have x1 : ns[i]? = some (ns.getD i 0) := by rw [List.getD_eq_getElem?_getD, List.getElem?_eq_getElem (show i < ns.length by omega)]; rfl
            have x2 : ns[i + 1]? = some (ns.getD (i + 1) 0) := by rw [List.getD_eq_getElem?_getD, List.getElem?_eq_getElem (show i + 1 < ns.length by omega)]; rfl
            have b1 := hin _ (List.mem_of_getElem? x1)
            generalize ns.getD i 0 = p1 at g1 x1 b1
            generalize ns.getD (i + 1) 0 = p2 at g2 x2
            have st := seqT s2 sy
            refine ⟨_, rfl, _, rfl, a, _, _, _, rfl, rfl, st, at_of (j := i + 1) (by omega) g2, _, rfl, _, rfl, _, _, rfl, rfl, a, _, _, _, rfl, rfl, st, at_of (j := i) (by omega) g1, _, _, rfl, rfl, _, rfl, ?_⟩
            by_cases c3 : p2 ≤ p1
            · rw [decide_eq_true c3]
              exact iteT (iteT (k' false (chainL_not x1 x2 fun h => by omega).symm _ s2))
            rw [decide_eq_false c3]
            obtain ⟨r, b, hrow, hx, t⟩ : ∃ r b, nr[p1.toNat]? = some r ∧ xs[p1.toNat]? = some (.ref b) ∧ LstI K H b r := by
              have hlt : p1.toNat < xs.length := by omega
              obtain ⟨r, b, h1, h2, h3⟩ := hr2.rowL (List.getElem?_eq_getElem hlt)
              exact ⟨r, b, h1, by rw [List.getElem?_eq_getElem hlt, h2], h3⟩
            have hgd : nr.getD p1.toNat [] = r := by rw [List.getD_eq_getElem?_getD, hrow]; rfl
            refine iteF ⟨_, rfl, _, rfl, a, _, _, _, rfl, rfl, st, at_of (j := i + 1) (by omega) g2, _, rfl, _, rfl, _, rfl, _, _, rfl, rfl, a, _, _, _, rfl, rfl, st, at_of (j := i) (by omega) g1, L, _, _, _, rfl, rfl, s2.seq hL, at_of (j := p1.toNat) (by omega) hx, b, _, rfl, .inl (t.same s2).1, rfl, flat_ints r, _, rfl, ?_⟩
            show if (!inV (.int p2) (r.map V.int)) = true then _ else _
            rw [inV_int]
            by_cases c4 : p2 ∈ r
            · rw [decide_eq_true c4]
              refine iteF ⟨_, _, rfl, s2, fun j x y hj hx hy => ?_⟩
              by_cases ej : j = i
              · subst ej
                rw [x1] at hx
                rw [x2] at hy
                cases hx
                cases hy
                rw [hgd]
                exact ⟨by omega, c4⟩
              · exact hp2 j x y (by omega) hx hy
            · rw [decide_eq_false c4]
              exact iteT (k' false (chainL_not x1 x2 fun h => c4 (by rw [← hgd]; exact h.2)).symm _ s2)
          · subst e2
            refine k' true (chainL_of fun j x y hx hy => hp2 j x y ?_ hx hy).symm _ s2
            have := (List.getElem?_eq_some_iff.mp hy).1
            omega
    | _ => exact iteT (iteT (k' false rfl _ (Same.refl _)))
end
end LK
/-! comprehensions whose elements may hold lists -/
namespace LK
open PySem PySem.Spec PyProof.Rows L2
/-- at D the values so far, all else stands -/
def FillH (K : PySem.W.Frag) (H : Hp) (D : Addr) (H' : Hp) (xs : List V) (ds : List PyData) : Prop := Fill H D H' xs ∧ RpAll K (hide D H') xs ds
theorem fillH_start {K : PySem.W.Frag} {H : Hp} {D : Addr} (n : H D = none) : FillH K H D (upd H D (.lst [])) [] [] := ⟨Fill.start n, .nil⟩
theorem fillH_push {K : PySem.W.Frag} {H H1 H2 : Hp} {D : Addr} {xs : List V} {ds : List PyData} {y : V} {d : PyData} (n : H D = none) (f : FillH K H D H1 xs ds) (s : Same H1 H2) (r : Rp K (hide D H2) y d) : FillH K H D (upd H2 D (.lst (xs ++ [y]))) (xs ++ [y]) (ds ++ [d]) :=
  ⟨f.1.push n s, by rw [hide_upd_self]; exact (f.2.same (hide_mono s)).app (.cons r .nil)⟩
theorem fillH_same {K : PySem.W.Frag} {H H1 H2 : Hp} {D : Addr} {xs : List V} {ds : List PyData} (f : FillH K H D H1 xs ds) (s : Same H1 H2) : FillH K H D H2 xs ds := ⟨⟨f.1.1.trans s, s _ _ f.1.2⟩, f.2.same (hide_mono s)⟩
/-- what stood ahead is not at D -/
theorem old_hide {H H' : Hp} {D : Addr} (n : H D = none) (s : Same H H') : Same H (hide D H') := fun b u e => by
  rw [hide_ne (ne_of_none e n)]
  exact s _ _ e
theorem lcLH {K : PySem.W.Frag} {a : Addr} {xs : List V} {g : TG} {tt : TT} {te : TE} {vs : List Nat} {σ : L2.St} {H : Hp} {D : Addr} {Qd : Hp → Prop} (p : Nat → Bool) (f : Nat → PyData) (hD : H D = none) (hx : SqL K H a xs) (hz : xs.length ≤ 1000)
    (hs : ∀ (i : Nat) (x : V) (H1 : Hp), xs[i]? = some x → Same H H1 → (∃ ys, H1 D = some (.lst ys)) → ∀ (Q : VK) (Q' : Hp → Prop), (p i = true → ∀ y H2, Same H1 H2 → Rp K (hide D H2) y (f i) → Q y H2) → (p i = false → ∀ H2, Same H1 H2 → Q' H2) →
      g x (wipe σ vs) H1 fun σ2 H2 => wipe σ2 vs = wipe σ vs ∧ tt σ2 H2 fun b H3 => if b = true then te σ2 H3 Q else Q' H3)
    (hd : ∀ ys H1, Same H H1 → H1 D = some (.lst ys) → ys.length ≤ xs.length → RpAll K (hide D H1) ys (((List.range xs.length).filter p).map f) → Qd H1) :
    ∃ W : Nat → Nat → Hp → Prop, (∃ m, W 0 m (upd H D (.lst []))) ∧ ∀ i m H, W i m H →
      ((Itl K a).stop i H ∧ Qd H) ∨ ((Itl K a).go i H ∧ ∃ Nx : Hp → Prop, (∀ H', Nx H' → ∃ m', m' < m ∧ W (i + 1) m' H') ∧ ∀ x H', (Itl K a).yld i H x H' → g x (wipe σ vs) H' fun σ2 H2 => wipe σ2 vs = wipe σ vs ∧ tt σ2 H2 fun b H3 =>
        if b = true then te σ2 H3 fun y H4 => ∃ acc, H4 D = some (.lst acc) ∧ acc.length < sizeLine ∧ Nx (upd H4 D (.lst (acc ++ [y]))) else Nx H3) := by
  refine lc_list (fun i H1 => ∃ ys, FillH K H D H1 ys (((List.range i).filter p).map f) ∧ ys.length ≤ i) ⟨[], fillH_start hD, Nat.le_refl _⟩ (fun i H1 _ ⟨ys, fl, _⟩ => fl.1.1.seq hx)
    (fun i x H1 hi ⟨ys, fl, hy⟩ => ?_) (fun H1 ⟨ys, fl, hy⟩ => hd ys H1 fl.1.1 fl.1.2 hy fl.2)
  have hlt : i < xs.length := (List.getElem?_eq_some_iff.mp hi).1
  refine hs i x H1 hi fl.1.1 ⟨ys, fl.1.2⟩ _ _ (fun hp y H2 s2 ry => ⟨ys, fl.1.at s2, small1000 (by omega), ys ++ [y], ?_, by rw [List.length_append, List.length_singleton]; omega⟩) (fun hp H2 s2 => ⟨ys, ?_, by omega⟩)
  · rw [List.range_succ, List.filter_append, List.map_append]
    have e1 : ([i].filter p) = [i] := by simp [hp]
    rw [e1]
    exact fillH_push hD fl s2 ry
  · rw [List.range_succ, List.filter_append]
    have e1 : ([i].filter p) = [] := by simp [hp]
    rw [e1, List.append_nil]
    exact fillH_same fl s2
theorem lcTH {K : PySem.W.Frag} {a : Addr} {xs : List V} {g : TG} {tt : TT} {te : TE} {vs : List Nat} {σ : L2.St} {H : Hp} {D : Addr} {Qd : Hp → Prop} (p : Nat → Bool) (f : Nat → PyData) (hD : H D = none) (hx : SqT K H a xs) (hz : xs.length ≤ 1000)
    (hs : ∀ (i : Nat) (x : V) (H1 : Hp), xs[i]? = some x → Same H H1 → (∃ ys, H1 D = some (.lst ys)) → ∀ (Q : VK) (Q' : Hp → Prop), (p i = true → ∀ y H2, Same H1 H2 → Rp K (hide D H2) y (f i) → Q y H2) → (p i = false → ∀ H2, Same H1 H2 → Q' H2) →
      g x (wipe σ vs) H1 fun σ2 H2 => wipe σ2 vs = wipe σ vs ∧ tt σ2 H2 fun b H3 => if b = true then te σ2 H3 Q else Q' H3)
    (hd : ∀ ys H1, Same H H1 → H1 D = some (.lst ys) → ys.length ≤ xs.length → RpAll K (hide D H1) ys (((List.range xs.length).filter p).map f) → Qd H1) :
    ∃ W : Nat → Nat → Hp → Prop, (∃ m, W 0 m (upd H D (.lst []))) ∧ ∀ i m H, W i m H →
      ((Itt K a).stop i H ∧ Qd H) ∨ ((Itt K a).go i H ∧ ∃ Nx : Hp → Prop, (∀ H', Nx H' → ∃ m', m' < m ∧ W (i + 1) m' H') ∧ ∀ x H', (Itt K a).yld i H x H' → g x (wipe σ vs) H' fun σ2 H2 => wipe σ2 vs = wipe σ vs ∧ tt σ2 H2 fun b H3 =>
        if b = true then te σ2 H3 fun y H4 => ∃ acc, H4 D = some (.lst acc) ∧ acc.length < sizeLine ∧ Nx (upd H4 D (.lst (acc ++ [y]))) else Nx H3) := by
  refine lc_tup (fun i H1 => ∃ ys, FillH K H D H1 ys (((List.range i).filter p).map f) ∧ ys.length ≤ i) ⟨[], fillH_start hD, Nat.le_refl _⟩ (fun i H1 _ ⟨ys, fl, _⟩ => seqT fl.1.1 hx)
    (fun i x H1 hi ⟨ys, fl, hy⟩ => ?_) (fun H1 ⟨ys, fl, hy⟩ => hd ys H1 fl.1.1 fl.1.2 hy fl.2)
  have hlt : i < xs.length := (List.getElem?_eq_some_iff.mp hi).1
  refine hs i x H1 hi fl.1.1 ⟨ys, fl.1.2⟩ _ _ (fun hp y H2 s2 ry => ⟨ys, fl.1.at s2, small1000 (by omega), ys ++ [y], ?_, by rw [List.length_append, List.length_singleton]; omega⟩) (fun hp H2 s2 => ⟨ys, ?_, by omega⟩)
  · rw [List.range_succ, List.filter_append, List.map_append]
    have e1 : ([i].filter p) = [i] := by simp [hp]
    rw [e1]
    exact fillH_push hD fl s2 ry
  · rw [List.range_succ, List.filter_append]
    have e1 : ([i].filter p) = [] := by simp [hp]
    rw [e1, List.append_nil]
    exact fillH_same fl s2
theorem lcRH {K : PySem.W.Frag} {lo : Int} {n : Nat} {g : TG} {tt : TT} {te : TE} {vs : List Nat} {σ : L2.St} {H : Hp} {D : Addr} {Qd : Hp → Prop} (p : Nat → Bool) (f : Nat → PyData) (hD : H D = none) (hz : n ≤ 1000)
    (hs : ∀ (i : Nat)  (H1 : Hp), i < n → Same H H1 → (∃ ys, H1 D = some (.lst ys)) → ∀ (Q : VK) (Q' : Hp → Prop), (p i = true → ∀ y H2, Same H1 H2 → Rp K (hide D H2) y (f i) → Q y H2) → (p i = false → ∀ H2, Same H1 H2 → Q' H2) →
      g (.int (lo + i)) (wipe σ vs) H1 fun σ2 H2 => wipe σ2 vs = wipe σ vs ∧ tt σ2 H2 fun b H3 => if b = true then te σ2 H3 Q else Q' H3)
    (hd : ∀ ys H1, Same H H1 → H1 D = some (.lst ys) → ys.length ≤ n → RpAll K (hide D H1) ys (((List.range n).filter p).map f) → Qd H1) :
    ∃ W : Nat → Nat → Hp → Prop, (∃ m, W 0 m (upd H D (.lst []))) ∧ ∀ i m H, W i m H →
      ((Itr lo n).stop i H ∧ Qd H) ∨ ((Itr lo n).go i H ∧ ∃ Nx : Hp → Prop, (∀ H', Nx H' → ∃ m', m' < m ∧ W (i + 1) m' H') ∧ ∀ x H', (Itr lo n).yld i H x H' → g x (wipe σ vs) H' fun σ2 H2 => wipe σ2 vs = wipe σ vs ∧ tt σ2 H2 fun b H3 =>
        if b = true then te σ2 H3 fun y H4 => ∃ acc, H4 D = some (.lst acc) ∧ acc.length < sizeLine ∧ Nx (upd H4 D (.lst (acc ++ [y]))) else Nx H3) := by
  refine lc_range (fun i H1 => ∃ ys, FillH K H D H1 ys (((List.range i).filter p).map f) ∧ ys.length ≤ i) ⟨[], fillH_start hD, Nat.le_refl _⟩ 
    (fun i  H1 hi ⟨ys, fl, hy⟩ => ?_) (fun H1 ⟨ys, fl, hy⟩ => hd ys H1 fl.1.1 fl.1.2 hy fl.2)
  have hlt : i < n := hi
  refine hs i  H1 hi fl.1.1 ⟨ys, fl.1.2⟩ _ _ (fun hp y H2 s2 ry => ⟨ys, fl.1.at s2, small1000 (by omega), ys ++ [y], ?_, by rw [List.length_append, List.length_singleton]; omega⟩) (fun hp H2 s2 => ⟨ys, ?_, by omega⟩)
  · rw [List.range_succ, List.filter_append, List.map_append]
    have e1 : ([i].filter p) = [i] := by simp [hp]
    rw [e1]
    exact fillH_push hD fl s2 ry
  · rw [List.range_succ, List.filter_append]
    have e1 : ([i].filter p) = [] := by simp [hp]
    rw [e1, List.append_nil]
    exact fillH_same fl s2
/-- elements that stood ahead -/
theorem lcLV {K : PySem.W.Frag} {a : Addr} {xs : List V} {g : TG} {tt : TT} {te : TE} {vs : List Nat} {σ : L2.St} {H : Hp} {D : Addr} {Qd : Hp → Prop} (p : Nat → Bool) (f : Nat → V) (hD : H D = none) (hx : SqL K H a xs) (hz : xs.length ≤ 1000)
    (hs : ∀ (i : Nat) (x : V) (H1 : Hp), xs[i]? = some x → Same H H1 → ∀ (Q : VK) (Q' : Hp → Prop), (p i = true → ∀ H2, Same H1 H2 → Q (f i) H2) → (p i = false → ∀ H2, Same H1 H2 → Q' H2) →
      g x (wipe σ vs) H1 fun σ2 H2 => wipe σ2 vs = wipe σ vs ∧ tt σ2 H2 fun b H3 => if b = true then te σ2 H3 Q else Q' H3)
    (hd : ∀ H1, Same H H1 → H1 D = some (.lst (((List.range xs.length).filter p).map f)) → Qd H1) :
    ∃ W : Nat → Nat → Hp → Prop, (∃ m, W 0 m (upd H D (.lst []))) ∧ ∀ i m H, W i m H →
      ((Itl K a).stop i H ∧ Qd H) ∨ ((Itl K a).go i H ∧ ∃ Nx : Hp → Prop, (∀ H', Nx H' → ∃ m', m' < m ∧ W (i + 1) m' H') ∧ ∀ x H', (Itl K a).yld i H x H' → g x (wipe σ vs) H' fun σ2 H2 => wipe σ2 vs = wipe σ vs ∧ tt σ2 H2 fun b H3 =>
        if b = true then te σ2 H3 fun y H4 => ∃ acc, H4 D = some (.lst acc) ∧ acc.length < sizeLine ∧ Nx (upd H4 D (.lst (acc ++ [y]))) else Nx H3) := by
  refine lc_list (fun i H1 => Fill H D H1 (((List.range i).filter p).map f)) (Fill.start hD) (fun i H1 _ fl => fl.1.seq hx)
    (fun i x H1 hi fl => ?_) (fun H1 fl => hd H1 fl.1 fl.2)
  have hlt : i < xs.length := (List.getElem?_eq_some_iff.mp hi).1
  have hle : (((List.range i).filter p).map f).length ≤ i := by
    rw [List.length_map]
    exact Nat.le_trans (List.length_filter_le _ _) (by rw [List.length_range]; exact Nat.le_refl _)
  refine hs i x H1 hi fl.1 _ _ (fun hp H2 s2 => ⟨_, fl.at s2, small1000 (by omega), ?_⟩) (fun hp H2 s2 => ?_)
  · rw [List.range_succ, List.filter_append, List.map_append]
    have e1 : ([i].filter p) = [i] := by simp [hp]
    rw [e1]
    exact fl.push hD s2
  · rw [List.range_succ, List.filter_append]
    have e1 : ([i].filter p) = [] := by simp [hp]
    rw [e1, List.append_nil]
    exact ⟨fl.1.trans s2, s2 _ _ fl.2⟩
/-- what is chosen from data is data -/
theorem RpAll.pick {K : PySem.W.Frag} {H : Hp} {xs : List V} {ds : List PyData} (r : RpAll K H xs ds) (p : Nat → Bool) : ∀ (l : List Nat), (∀ j ∈ l, j < xs.length) → RpAll K H (l.map fun j => xs.getD j .non) (l.map fun j => ds.getD j .none)
  | [], _ => .nil
  | j :: l, h => by
    have hj := h j (by simp)
    obtain ⟨d, hd, rd⟩ := r.get (List.getElem?_eq_getElem hj)
    refine .cons ?_ (RpAll.pick r p l fun i hi => h i (by simp [hi]))
    show Rp K H (xs.getD j .non) (ds.getD j .none)
    rw [List.getD_eq_getElem?_getD, List.getD_eq_getElem?_getD, List.getElem?_eq_getElem hj, hd]
    exact rd
end LK
namespace LK
open PySem PySem.Spec PyProof.Rows L2
section
variable {P : Program} {w : World} {K : PySem.W.Frag} {mg : Str → Option Value} {base : Heap} {ad : Nat → Addr} {fd : Nat → FuncData}
theorem ok_is_integer (T : Txt K mg ad fd) : FnOk P w K mg base CX0 1 (ad 1) (fd 1) ["thing"] (spB1 K isInteger) := by
  refine T.F_is_integer.ok sc_is_integer (fun vs H Q E h => ?_) (fun cdv A outer s H vs Q E hr h => ?_)
  · obtain ⟨v, d, rfl, _⟩ := h
    rfl
  · obtain ⟨v, d, rfl, h, k⟩ := h
    refine ⟨_, (pss_one (ps_ret (pe_and (pe_callB (isiR K) (by rfl) T.g_isinstance (by decide +kernel) (pa_cons (pv 0) (pa_cons (pe_bltn (v := .ty "int") (by rfl) T.g_int (by decide +kernel) rfl) pa_nil))) (pe_one (pe_not (pe_callB (isiR K) (by rfl) T.g_isinstance (by decide +kernel) (pa_cons (pv 0) (pa_cons (pe_bltn (v := .ty "bool") (by rfl) T.g_bool (by decide +kernel) rfl) pa_nil)))))))), ?_⟩
    refine ⟨v, rfl, v, .ty "int", _, _, _, rfl, .ty _, h.ty, isi_int h, _, rfl, ?_⟩
    have kk : ∀ b, b = isInteger d → Q (.bl b) H := fun b e => by rw [e]; exact k
    cases e : isIntB d with
    | false => exact iteF (kk _ (by cases d <;> first | rfl | simp [isIntB] at e))
    | true =>
      refine iteT ⟨v, rfl, v, .ty "bool", _, _, _, rfl, .ty _, h.ty, isi_bool h, _, rfl, kk _ ?_⟩
      cases d <;> first | rfl | simp [isIntB] at e
theorem ok_is_number (T : Txt K mg ad fd) : FnOk P w K mg base CX0 2 (ad 2) (fd 2) ["thing"] (spB1 K isNumber) := by
  refine T.F_is_number.ok sc_is_number (fun vs H Q E h => ?_) (fun cdv A outer s H vs Q E hr h => ?_)
  · obtain ⟨v, d, rfl, _⟩ := h
    rfl
  · obtain ⟨v, d, rfl, h, k⟩ := h
    refine ⟨_, (pss_one (ps_ret (pe_and (pe_call (ok_is_integer T) (hr.mono (by decide)) rfl T.m_is_integer T.F_is_integer.kp (b_is_integer T) .nil pass0 (pa_cons (pv 0) pa_nil)) (pe_one (pe_cmpR op_ge (pv 0) pe_int (nomark _)))))), ?_⟩
    refine ⟨v, rfl, v, d, rfl, h, _, rfl, ?_⟩
    cases h with
    | int i => exact iteT ⟨_, rfl, _, _, rfl, rfl, k⟩
    | _ => exact iteF k
theorem ok_is_below (T : Txt K mg ad fd) : FnOk P w K mg base CX0 3 (ad 3) (fd 3) ["size", "thing"] (spIB0 K isBelow) := by
  refine T.F_is_below.ok sc_is_below (fun vs H Q E h => ?_) (fun cdv A outer s H vs Q E hr h => ?_)
  · obtain ⟨n, v, d, rfl, _⟩ := h
    rfl
  · obtain ⟨n, v, d, rfl, h, k⟩ := h
    refine ⟨_, (pss_one (ps_ret (pe_and (pe_call (ok_is_number T) (hr.mono (by decide)) rfl T.m_is_number T.F_is_number.kp (b_is_number T) .nil pass0 (pa_cons (pv 1) pa_nil)) (pe_one (pe_cmpR op_lt (pv 1) (pv 0) (nomark _)))))), ?_⟩
    refine ⟨v, rfl, v, d, rfl, h, _, rfl, ?_⟩
    cases h with
    | int i =>
      have k' : Q (.bl (decide (0 ≤ i ∧ i < n))) H := k
      show if (decide (0 ≤ i)) = true then _ else Q (.bl false) H
      by_cases c : 0 ≤ i
      · rw [decide_eq_true c]
        refine iteT ⟨_, rfl, _, rfl, _, _, rfl, rfl, ?_⟩
        have e : decide (i < n) = decide (0 ≤ i ∧ i < n) := by simp [c]
        show Q (.bl (decide (i < n))) H
        rw [e]
        exact k'
      · rw [decide_eq_false c]
        refine iteF ?_
        have e : false = decide (0 ≤ i ∧ i < n) := by simp [c]
        show Q (.bl false) H
        rw [e]
        exact k'
    | _ => exact iteF k
theorem ok_is_rising (T : Txt K mg ad fd) : FnOk P w K mg base CX0 1 (ad 4) (fd 4) ["things"] (spRising K) := by
  refine T.F_is_rising.ok sc_is_rising (fun vs H Q E h => ?_) (fun cdv A outer s H vs Q E hr h => ?_)
  · obtain ⟨a, ns, rfl, _⟩ := h
    rfl
  · obtain ⟨a, ns, rfl, h, k⟩ := h
    refine ⟨_, (pss_one (ps_ret (pe_callB (allR K) (by rfl) T.g_all (by decide +kernel) (pa_cons (pe_lc (own := [("k", 1)]) (g := gName 1) rfl sc_is_rising.nd (pi_range2 rfl T.g_range (pa_cons pe_int (pa_cons (pe_callB (lenS K) (by rfl) T.g_len (by decide +kernel) (pa_cons (pv 0) pa_nil)) pa_nil))) (blkOk_by (N := ["things", "k"]) (sc := defScope s_is_rising) (by decide +kernel)) (fun _ _ _ _ _ => (pg_name (i := 1) (x := "k") sc_is_rising.nd rfl (Or.inl rfl))) (fun _ _ _ _ _ => pts_nil) (fun _ _ _ _ _ => (pe_cmpR op_lt (pe_ix (ixT K) (pv 0) (pe_op op_sub (pv 1) pe_int) (fun _ _ => rfl)) (pe_ix (ixT K) (pv 0) (pv 1) (fun _ _ => rfl)) (nomark _)))) pa_nil)))), ?_⟩
    have hl := h.2
    have ez : (((ns.map V.int).length : Int) - 1).toNat = ns.length - 1 := by rw [List.length_map]; omega
    refine ⟨_, rfl, _, _, rfl, .inr h.1, _, _, rfl, ⟨by decide, by decide, by rw [List.length_map]; omega, by rw [List.length_map]; omega⟩, fun D hD => ?_⟩
    rw [ez]
    refine lcR (K := K) (lo := 1) (n := ns.length - 1) (fun _ => true) (fun j => .bool (decide (ns.getD j 0 < ns.getD (j + 1) 0))) hD (by omega) (fun _ _ _ => rfl) (fun i H1 hi s1 Q1 Q2 k1 k2 => ?_) (fun ys H1 s1 hy r => ?_)
    · refine ⟨rfl, ?_⟩
      have g1 : (ns.map V.int)[i]? = some (.int (ns.getD i 0)) := mapD (by omega)
      have g2 : (ns.map V.int)[i + 1]? = some (.int (ns.getD (i + 1) 0)) := mapD (by omega)
      refine ⟨_, rfl, _, rfl, _, _, rfl, rfl, _, _, _, _, rfl, rfl, (seqT s1 h.1), at_of (j := i) (by omega) g1, _, rfl, _, rfl, _, _, _, _, rfl, rfl, (seqT s1 h.1), at_of (j := i + 1) (by omega) g2, _, _, rfl, rfl, ?_⟩
      exact k1 rfl _ _ (Same.refl _) (.bl _)
    · rw [filter_true] at r
      have e := RpAll.ofBools (bs := (List.range (ns.length - 1)).map fun j => decide (ns.getD j 0 < ns.getD (j + 1) 0)) (by rw [List.map_map]; exact r)
      subst e
      refine ⟨_, _, rfl, SqL.of hy, ?_⟩
      have e2 : ((List.range (ns.length - 1)).map fun j => decide (ns.getD j 0 < ns.getD (j + 1) 0)).all id = rising ns := rising_all ns
      show Q (.bl _) H1
      rw [e2]
      exact k _ s1
theorem ok_are_below (T : Txt K mg ad fd) : FnOk P w K mg base CX0 4 (ad 5) (fd 5) ["size", "thing"] (spIB K areBelow) := by
  refine T.F_are_below.ok sc_are_below (fun vs H Q E h => ?_) (fun cdv A outer s H vs Q E hr h => ?_)
  · obtain ⟨n, v, d, rfl, _⟩ := h
    rfl
  · obtain ⟨n, v, d, rfl, h, k⟩ := h
    refine ⟨_, (pss_one (ps_ret (pe_and (pe_callB (isiR K) (by rfl) T.g_isinstance (by decide +kernel) (pa_cons (pv 1) (pa_cons (pe_bltn (v := .ty "tuple") (by rfl) T.g_tuple (by decide +kernel) rfl) pa_nil))) (pe_one (pe_callB (allR K) (by rfl) T.g_all (by decide +kernel) (pa_cons (pe_lc (own := [("one", 2)]) (g := gName 2) rfl sc_are_below.nd (piT K (pv 1)) (blkOk_by (N := ["size", "thing", "one"]) (sc := defScope s_are_below) (by decide +kernel)) (fun _ _ _ _ _ => (pg_name (i := 2) (x := "one") sc_are_below.nd rfl (Or.inl rfl))) (fun _ _ _ _ _ => pts_nil) (fun _ _ _ _ _ => (pe_call (ok_is_below T) (hr.mono (by decide)) rfl T.m_is_below T.F_is_below.kp (b_is_below T) .nil pass0 (pa_cons (pv 0) (pa_cons (pv 2) pa_nil))))) pa_nil)))))), ?_⟩
    refine ⟨v, rfl, v, .ty "tuple", _, _, _, rfl, .ty _, h.ty, isi_tuple h, _, rfl, ?_⟩
    cases h with
    | @tup a xs ds s l r =>
      refine iteT ⟨_, rfl, _, rfl, ⟨_, s⟩, fun D hD => ?_⟩
      refine lcT (K := K) (xs := xs) (fun _ => true) (fun j => .bool (isBelow n (ds.getD j .none))) hD s l (fun _ _ _ => rfl) (fun i x H1 hi s1 Q1 Q2 k1 k2 => ?_) (fun ys H1 s1 hy r1 => ?_)
      · obtain ⟨d, hd, rd⟩ := r.get hi
        have ed : ds.getD i .none = d := by rw [List.getD_eq_getElem?_getD, hd]; rfl
        refine ⟨rfl, _, rfl, _, rfl, n, x, d, rfl, rd.same s1, ?_⟩
        refine k1 rfl _ _ (Same.refl _) ?_
        rw [ed]
        exact .bl _
      · rw [filter_true] at r1
        have e := RpAll.ofBools (bs := (List.range xs.length).map fun j => isBelow n (ds.getD j .none)) (by rw [List.map_map]; exact r1)
        subst e
        refine ⟨_, _, rfl, SqL.of hy, ?_⟩
        have e2 : ((List.range xs.length).map fun j => isBelow n (ds.getD j .none)).all id = areBelow n (.tuple ds) := by
          rw [r.length]
          exact all_range (isBelow n) .none ds
        show Q (.bl _) H1
        rw [e2]
        exact k _ s1
    | _ => exact iteF (k _ (Same.refl _))
theorem ok_is_lot (T : Txt K mg ad fd) : FnOk P w K mg base CX0 5 (ad 7) (fd 7) ["size", "thing"] (spIB K isLot) := by
  refine T.F_is_lot.ok sc_is_lot (fun vs H Q E h => ?_) (fun cdv A outer s H vs Q E hr h => ?_)
  · obtain ⟨n, v, d, rfl, _⟩ := h
    rfl
  · obtain ⟨n, v, d, rfl, h, k⟩ := h
    refine ⟨_, (pss_one (ps_ret (pe_and (pe_call (ok_are_below T) (hr.mono (by decide)) rfl T.m_are_below T.F_are_below.kp (b_are_below T) .nil pass0 (pa_cons (pv 0) (pa_cons (pv 1) pa_nil))) (pe_one (pe_call (ok_is_rising T) (hr.mono (by decide)) rfl T.m_is_rising T.F_is_rising.kp (b_is_rising T) .nil pass0 (pa_cons (pv 1) pa_nil)))))), ?_⟩
    refine ⟨_, rfl, _, rfl, n, v, d, rfl, h, fun H1 s1 => ⟨_, rfl, ?_⟩⟩
    have k' : ∀ b, b = isLot n d → ∀ H', Same H H' → Q (.bl b) H' := fun b e => by rw [e]; exact k
    cases e : areBelow n d with
    | false => exact iteF (k' _ (by simp [isLot, e]) _ s1)
    | true =>
      have ed := areBelow_tup e
      rw [ed] at h
      obtain ⟨a, rfl, ta⟩ := h.tupI
      exact iteT ⟨_, rfl, a, _, rfl, ta.same s1, fun H2 s2 => k' _ (by simp [isLot, e]) _ (s1.trans s2)⟩
end
end LK
namespace LK
open PySem PySem.Spec PyProof.Rows L2
section
variable {P : Program} {w : World} {K : PySem.W.Frag} {mg : Str → Option Value} {base : Heap} {ad : Nat → Addr} {fd : Nat → FuncData}
theorem ok_are_unlike_below (T : Txt K mg ad fd) : FnOk P w K mg base CX0 5 (ad 6) (fd 6) ["size", "thing"] (spIB K areUnlike) := by
  refine T.F_are_unlike_below.ok sc_are_unlike_below (fun vs H Q E h => ?_) (fun cdv A outer s H vs Q E hr h => ?_)
  · obtain ⟨n, v, d, rfl, _⟩ := h
    rfl
  · obtain ⟨n, v, d, rfl, h, k⟩ := h
    refine ⟨_, (pss_one (ps_ret (pe_and (pe_call (ok_are_below T) (hr.mono (by decide)) rfl T.m_are_below T.F_are_below.kp (b_are_below T) .nil pass0 (pa_cons (pv 0) (pa_cons (pv 1) pa_nil))) (pe_one (pe_cmpR op_eq (pe_lenSetT rfl rfl T.g_len rfl T.g_set (pv 1)) (pe_callB (lenS K) (by rfl) T.g_len (by decide +kernel) (pa_cons (pv 1) pa_nil)) (nomark _)))))), ?_⟩
    refine ⟨_, rfl, _, rfl, n, v, d, rfl, h, fun H1 s1 => ⟨_, rfl, ?_⟩⟩
    have k' : ∀ b, b = areUnlike n d → Q (.bl b) H1 := fun b e => by rw [e]; exact k _ s1
    cases e : areBelow n d with
    | false => exact iteF (k' _ (by simp [areUnlike, e]))
    | true =>
      have ed := areBelow_tup e
      rw [ed] at h
      obtain ⟨a, rfl, ta⟩ := h.tupI
      have ta := ta.same s1
      refine iteT ⟨_, rfl, a, _, rfl, ta.1, ta.2, fun c hc => ⟨_, rfl, _, _, rfl, .inr ta.1, rfl, ?_⟩⟩
      refine k' _ ?_
      unfold areUnlike
      rw [e, Bool.true_and, List.length_map]
      by_cases nd : (dInts d).Nodup
      · rw [decide_eq_true nd]
        exact decide_eq_true (by rw [hc.mpr nd])
      · rw [decide_eq_false nd]
        exact decide_eq_false (fun z => nd (hc.mp (by injection z with z; omega)))
theorem ok_is_line (T : Txt K mg ad fd) : FnOk P w K mg base CX0 6 (ad 8) (fd 8) ["size", "thing"] (spIB K isLine) := by
  refine T.F_is_line.ok sc_is_line (fun vs H Q E h => ?_) (fun cdv A outer s H vs Q E hr h => ?_)
  · obtain ⟨n, v, d, rfl, _⟩ := h
    rfl
  · obtain ⟨n, v, d, rfl, h, k⟩ := h
    refine ⟨_, (pss_one (ps_ret (pe_and (pe_call (ok_are_unlike_below T) (hr.mono (by decide)) rfl T.m_are_unlike_below T.F_are_unlike_below.kp (b_are_unlike_below T) .nil pass0 (pa_cons (pv 0) (pa_cons (pv 1) pa_nil))) (pe_one (pe_cmpR op_eq (pe_callB (lenS K) (by rfl) T.g_len (by decide +kernel) (pa_cons (pv 1) pa_nil)) (pv 0) (nomark _)))))), ?_⟩
    refine ⟨_, rfl, _, rfl, n, v, d, rfl, h, fun H1 s1 => ⟨_, rfl, ?_⟩⟩
    have k' : ∀ b, b = isLine n d → Q (.bl b) H1 := fun b e => by rw [e]; exact k _ s1
    cases e : areUnlike n d with
    | false => exact iteF (k' _ (by simp [isLine, e]))
    | true =>
      have e2 : areBelow n d = true := by
        unfold areUnlike at e
        rw [Bool.and_eq_true] at e
        exact e.1
      have ed := areBelow_tup e2
      rw [ed] at h
      obtain ⟨a, rfl, ta⟩ := h.tupI
      have ta := ta.same s1
      refine iteT ⟨_, rfl, _, _, rfl, .inr ta.1, _, rfl, rfl, ?_⟩
      refine k' _ ?_
      unfold isLine
      rw [e, Bool.true_and, List.length_map]
      by_cases c : ((dInts d).length : Int) = n
      · rw [decide_eq_true c]
        exact decide_eq_true (by rw [c])
      · rw [decide_eq_false c]
        exact decide_eq_false (fun z => c (by injection z))
theorem ok_is_listed (T : Txt K mg ad fd) : FnOk P w K mg base CX0 6 (ad 10) (fd 10) ["size", "thing"] (spIB K isListed) := by
  refine T.F_is_listed.ok sc_is_listed (fun vs H Q E h => ?_) (fun cdv A outer s H vs Q E hr h => ?_)
  · obtain ⟨n, v, d, rfl, _⟩ := h
    rfl
  · obtain ⟨n, v, d, rfl, h, k⟩ := h
    refine ⟨_, (pss_one (ps_ret (pe_and (pe_call (ok_is_lot T) (hr.mono (by decide)) rfl T.m_is_lot T.F_is_lot.kp (b_is_lot T) .nil pass0 (pa_cons (pv 0) (pa_cons (pv 1) pa_nil))) (pe_one (pe_cmpR op_ge (pe_callB (lenS K) (by rfl) T.g_len (by decide +kernel) (pa_cons (pv 1) pa_nil)) pe_int (nomark _)))))), ?_⟩
    refine ⟨_, rfl, _, rfl, n, v, d, rfl, h, fun H1 s1 => ⟨_, rfl, ?_⟩⟩
    have k' : ∀ b, b = isListed n d → Q (.bl b) H1 := fun b e => by rw [e]; exact k _ s1
    cases e : isLot n d with
    | false => exact iteF (k' _ (by simp [isListed, e]))
    | true =>
      have e2 : areBelow n d = true := by
        unfold isLot at e
        rw [Bool.and_eq_true] at e
        exact e.1
      have ed := areBelow_tup e2
      rw [ed] at h
      obtain ⟨a, rfl, ta⟩ := h.tupI
      have ta := ta.same s1
      refine iteT ⟨_, rfl, _, _, rfl, .inr ta.1, _, _, rfl, rfl, ?_⟩
      refine k' _ ?_
      unfold isListed
      rw [e, Bool.true_and, List.length_map]
      by_cases c : 2 ≤ (dInts d).length
      · rw [decide_eq_true c]
        exact decide_eq_true (by omega)
      · rw [decide_eq_false c]
        exact decide_eq_false (by omega)
theorem ok_are_tied (T : Txt K mg ad fd) : FnOk P w K mg base CX0 1 (ad 12) (fd 12) ["book", "here", "there"] (spTied K) := by
  refine T.F_are_tied.ok sc_are_tied (fun vs H Q E h => ?_) (fun cdv A outer s H vs Q E hr h => ?_)
  · obtain ⟨v, x, y, n, rows, rfl, _⟩ := h
    rfl
  · obtain ⟨v, x, y, n, rows, rfl, h, k⟩ := h
    obtain ⟨b, L, xs, rfl, hb, hL, hz, hr2⟩ := rp_book h
    refine ⟨_, (pss_one (ps_ret (pe_callB (anyR K) (by rfl) T.g_any (by decide +kernel) (pa_cons (pe_lc (own := [("things", 3)]) (g := gName 3) rfl sc_are_tied.nd (piT K (pe_ix (ixT K) (pv 0) pe_int (fun _ _ => rfl))) (blkOk_by (N := ["book", "here", "there", "things"]) (sc := defScope s_are_tied) (by decide +kernel)) (fun _ _ _ _ _ => (pg_name (i := 3) (x := "things") sc_are_tied.nd rfl (Or.inl rfl))) (fun _ _ _ _ _ => pts_nil) (fun _ _ _ _ _ => (pe_and (pe_cmpR (inS K) (pv 1) (pv 3) (by with_unfolding_all rfl)) (pe_one (pe_cmpR (inS K) (pv 2) (pv 3) (by with_unfolding_all rfl)))))) pa_nil)))), ?_⟩
    refine ⟨_, rfl, _, _, _, _, rfl, rfl, hb, rfl, L, rfl, ⟨_, hL⟩, fun D hD => ?_⟩
    refine lcT (K := K) (xs := xs) (fun _ => true) (fun j => .bool (decide (x ∈ rows.getD j []) && decide (y ∈ rows.getD j []))) hD hL hz (fun _ _ _ => rfl) (fun i v H1 hi s1 Q1 Q2 k1 k2 => ?_) (fun ys H1 s1 hy r => ?_)
    · obtain ⟨ns, a, hn, rfl, t⟩ := hr2.row hi
      have t := t.same s1
      have en : rows.getD i [] = ns := by rw [List.getD_eq_getElem?_getD, hn]; rfl
      refine ⟨rfl, _, rfl, _, rfl, a, _, rfl, .inr t.1, rfl, flat_ints ns, _, rfl, ?_⟩
      show if inV (.int x) (ns.map V.int) = true then _ else _
      rw [inV_int]
      have k1' : ∀ b, b = (decide (x ∈ rows.getD i []) && decide (y ∈ rows.getD i [])) → Q1 (.bl b) H1 := fun b e => k1 rfl _ _ (Same.refl _) (by rw [e]; exact .bl _)
      rw [en] at k1'
      cases c : decide (x ∈ ns) with
      | false => exact iteF (k1' _ (by rw [c]; rfl))
      | true =>
        refine iteT ⟨_, rfl, _, rfl, a, _, rfl, .inr t.1, rfl, flat_ints ns, ?_⟩
        show Q1 (.bl (inV (.int y) (ns.map V.int))) H1
        rw [inV_int]
        exact k1' _ (by rw [c]; rfl)
    · rw [filter_true] at r
      have e := RpAll.ofBools (bs := (List.range xs.length).map fun j => (decide (x ∈ rows.getD j []) && decide (y ∈ rows.getD j []))) (by rw [List.map_map]; exact r)
      subst e
      refine ⟨_, _, rfl, SqL.of hy, ?_⟩
      have el : xs.length = rows.length := by rw [hr2.length, List.length_map]
      have e2 : ((List.range xs.length).map fun j => (decide (x ∈ rows.getD j []) && decide (y ∈ rows.getD j []))).any id = tiedB rows x y := by
        rw [el]
        exact any_range (fun r : List Int => decide (x ∈ r) && decide (y ∈ r)) [] rows
      show Q (.bl _) H1
      rw [e2]
      exact k _ s1
theorem ok_is_thing (T : Txt K mg ad fd) : FnOk P w K mg base CX0 4 (ad 13) (fd 13) ["book", "thing"] (spBB0 K fun n _ d => isBelow n d) := by
  refine T.F_is_thing.ok sc_is_thing (fun vs H Q E h => ?_) (fun cdv A outer s H vs Q E hr h => ?_)
  · obtain ⟨v, u, d, n, rows, rfl, _⟩ := h
    rfl
  · obtain ⟨v, u, d, n, rows, rfl, h, hu, k⟩ := h
    obtain ⟨b, L, xs, rfl, hb, hL, hz, hr2⟩ := rp_book h
    refine ⟨_, (pss_one (ps_ret (pe_call (ok_is_below T) (hr.mono (by decide)) rfl T.m_is_below T.F_is_below.kp (b_is_below T) .nil pass0 (pa_cons (pe_ix (ixT K) (pv 0) pe_int (fun _ _ => rfl)) (pa_cons (pv 1) pa_nil))))), ?_⟩
    exact ⟨_, rfl, _, _, _, _, rfl, rfl, hb, rfl, _, rfl, n, u, d, rfl, hu, k⟩
theorem ok_is_tie (T : Txt K mg ad fd) : FnOk P w K mg base CX0 6 (ad 14) (fd 14) ["book", "thing"] (spBB K isTie) := by
  refine T.F_is_tie.ok sc_is_tie (fun vs H Q E h => ?_) (fun cdv A outer s H vs Q E hr h => ?_)
  · obtain ⟨v, u, d, n, rows, rfl, _⟩ := h
    rfl
  · obtain ⟨v, u, d, n, rows, rfl, h, hu, k⟩ := h
    obtain ⟨b, L, xs, rfl, hb, hL, hz, hr2⟩ := rp_book h
    refine ⟨_, (pss_one (ps_ret (pe_and (pe_call (ok_is_lot T) (hr.mono (by decide)) rfl T.m_is_lot T.F_is_lot.kp (b_is_lot T) .nil pass0 (pa_cons (pe_ix (ixT K) (pv 0) pe_int (fun _ _ => rfl)) (pa_cons (pv 1) pa_nil))) (pe_and (pe_cmpR op_eq (pe_callB (lenS K) (by rfl) T.g_len (by decide +kernel) (pa_cons (pv 1) pa_nil)) pe_int (nomark _)) (pe_one (pe_call (ok_are_tied T) (hr.mono (by decide)) rfl T.m_are_tied T.F_are_tied.kp (b_are_tied T) .nil pass0 (pa_cons (pv 0) (pa_cons (pe_ix (ixT K) (pv 1) pe_int (fun _ _ => rfl)) (pa_cons (pe_ix (ixT K) (pv 1) pe_int (fun _ _ => rfl)) pa_nil))))))))), ?_⟩
    refine ⟨_, rfl, _, _, _, _, rfl, rfl, hb, rfl, _, rfl, n, u, d, rfl, hu, fun H1 s1 => ⟨_, rfl, ?_⟩⟩
    have k' : ∀ b H', Same H H' → b = isTie n rows d → Q (.bl b) H' := fun b H' s e => by rw [e]; exact k _ s
    cases e : isLot n d with
    | false => exact iteF (k' _ _ s1 (by simp [isTie, e]))
    | true =>
      have e2 : areBelow n d = true := by
        unfold isLot at e
        rw [Bool.and_eq_true] at e
        exact e.1
      have ed := areBelow_tup e2
      rw [ed] at hu
      obtain ⟨a, rfl, ta⟩ := hu.tupI
      have ta := ta.same s1
      have hb := seqT s1 hb
      refine iteT ⟨_, rfl, _, _, rfl, .inr ta.1, rfl, _, rfl, ?_⟩
      rw [List.length_map]
      by_cases c : (dInts d).length = 2
      · have c1 : decide (V.int ((dInts d).length : Nat) = V.int 2) = true := decide_eq_true (by rw [c]; rfl)
        rw [c1]
        have g0 : ((dInts d).map V.int)[0]? = some (.int ((dInts d).getD 0 0)) := mapD (by omega)
        have g1 : ((dInts d).map V.int)[1]? = some (.int ((dInts d).getD 1 0)) := mapD (by omega)
        refine iteT ⟨_, rfl, _, rfl, _, _, _, _, rfl, rfl, ta.1, at_of (j := 0) rfl g0, _, rfl, _, _, _, _, rfl, rfl, ta.1, at_of (j := 1) rfl g1, _, _, _, n, rows, rfl, h.same s1, fun H2 s2 => ?_⟩
        exact k' _ _ (s1.trans s2) (by simp [isTie, e, c])
      · have c1 : decide (V.int ((dInts d).length : Nat) = V.int 2) = false := decide_eq_false (fun z => c (by injection z with z; omega))
        rw [c1]
        exact iteF (k' _ _ s1 (by simp [isTie, e, c]))
end
end LK
namespace LK
open PySem PySem.Spec PyProof.Rows L2
section
variable {P : Program} {w : World} {K : PySem.W.Frag} {mg : Str → Option Value} {base : Heap} {ad : Nat → Addr} {fd : Nat → FuncData}
theorem ok_init_NotUsable (T : Txt K mg ad fd) : FnOk P w K mg base CX0 1 (ad 1021) (fd 1021) ["self", "word", "at"] (spInit2 (ad 21)) := by
  refine T.F_init_NotUsable.ok sc_init_NotUsable (fun vs H Q E h => ?_) (fun cdv A outer s H vs Q E hr h => ?_)
  · obtain ⟨a, x, t, rfl, _⟩ := h
    rfl
  · obtain ⟨a, x, t, rfl, ha, k⟩ := h
    refine ⟨_, pss_cons (ps_ost (pv 0) (pv 1)) (pss_one (ps_ost (pv 0) (pv 2))), ?_⟩
    refine ⟨_, rfl, _, rfl, a, _, rfl, T.ox_NotUsable, T.n_NotUsable_word, .inl ⟨ha, fun dx hd hda => ?_⟩⟩
    refine ⟨_, rfl, _, rfl, a, _, rfl, T.ox_NotUsable, T.n_NotUsable_at, .inr ⟨dx, _, upd_same, ?_, (by show 1 ≤ 900; decide), k dx hd hda⟩⟩
    rw [upd_ne hda, upd_same]
theorem ok_init_InvalidPaper (T : Txt K mg ad fd) : FnOk P w K mg base CX0 1 (ad 1020) (fd 1020) ["self", "word", "at"] (spInit2 (ad 20)) := by
  refine T.F_init_InvalidPaper.ok sc_init_InvalidPaper (fun vs H Q E h => ?_) (fun cdv A outer s H vs Q E hr h => ?_)
  · obtain ⟨a, x, t, rfl, _⟩ := h
    rfl
  · obtain ⟨a, x, t, rfl, ha, k⟩ := h
    refine ⟨_, pss_cons (ps_ost (pv 0) (pv 1)) (pss_one (ps_ost (pv 0) (pv 2))), ?_⟩
    refine ⟨_, rfl, _, rfl, a, _, rfl, T.ox_InvalidPaper, T.n_InvalidPaper_word, .inl ⟨ha, fun dx hd hda => ?_⟩⟩
    refine ⟨_, rfl, _, rfl, a, _, rfl, T.ox_InvalidPaper, T.n_InvalidPaper_at, .inr ⟨dx, _, upd_same, ?_, (by show 1 ≤ 900; decide), k dx hd hda⟩⟩
    rw [upd_ne hda, upd_same]
theorem ok_need (T : Txt K mg ad fd) : FnOk P w K mg base (L2.CX P w) 3 (ad 22) (fd 22) ["holds", "word"] (spNeed (ad 21)) := by
  refine T.F_need.okX sc_need (fun vs H Q E h => ?_) (fun cdv A outer s H vs Q E hr h => ?_)
  · obtain ⟨b, word, rfl, _⟩ := h
    rfl
  · obtain ⟨b, word, rfl, k1, k2⟩ := h
    refine ⟨_, (pss_one (ps_if (pt_not (pt_truth (pv 0) (by intro _; rfl))) (pss_one (ps_raise rfl (takes_of rfl rfl rfl rfl) (pmk_oex T.ox_NotUsable T.i_NotUsable T.t_NotUsable (ok_init_NotUsable T) (hr.mono (by decide)) (b_init_NotUsable T) .nil pass0 rfl T.m_NotUsable (pa_cons (pv 1) (pa_cons (pe_un un_neg pe_int) pa_nil)))))
  pss_nil)), ?_⟩
    refine ⟨_, rfl, b, rfl, ?_⟩
    cases b with
    | true => exact iteF (k1 rfl)
    | false =>
      refine iteT ?_
      exact raise2 (k2 rfl) fun Q hq => ⟨_, rfl, _, rfl, hq⟩
theorem ok_kept_to (T : Txt K mg ad fd) : FnOk P w K mg base (L2.CX P w) 6 (ad 24) (fd 24) ["book", "lot"] (spXN K (ad 21) (fun _ _ _ => True) keptTo) := by
  refine T.F_kept_to.okX sc_kept_to (fun vs H Q E h => ?_) (fun cdv A outer s H vs Q E hr h => ?_)
  · obtain ⟨v, u, d, n, rows, rfl, _⟩ := h
    rfl
  · obtain ⟨v, u, d, n, rows, rfl, h, hu, dn, _, k⟩ := h
    obtain ⟨b, L, xs, rfl, hb, hL, hz, hr2⟩ := rp_book h
    refine ⟨_, (pss_cons (ps_expr (pe_call (ok_need T) (hr.mono (by decide)) rfl T.m_need T.F_need.kp (b_need T) .nil (passes_call (takes_of rfl rfl rfl rfl) fun _ _ _ _ h => h) (pa_cons (pe_and (pe_call (ok_is_lot T) (hr.mono (by decide)) rfl T.m_is_lot T.F_is_lot.kp (b_is_lot T) .nil pass0 (pa_cons (pe_ix (ixT K) (pv 0) pe_int (fun _ _ => rfl)) (pa_cons (pv 1) pa_nil))) (pe_one (pe_cmpR op_gt (pe_callB (lenS K) (by rfl) T.g_len (by decide +kernel) (pa_cons (pv 1) pa_nil)) pe_int (nomark _)))) (pa_cons pe_str pa_nil))))
  (pss_cons (ps_setLc (i := 2) (own := [("things", 3)]) (g := gName 3) rfl sc_kept_to.nd rfl rfl (sw_true rfl rfl rfl (by decide +kernel)) (piT K (pe_ix (ixT K) (pv 0) pe_int (fun _ _ => rfl))) (blkOk_by (N := ["book", "lot", "kept", "things", "thing"]) (sc := defScope s_kept_to) (by decide +kernel)) (fun _ _ _ _ _ => (pg_name (i := 3) (x := "things") sc_kept_to.nd rfl (Or.inl rfl))) (fun _ _ _ _ _ => pts_nil) (fun _ _ _ _ _ => (pe_callTy (tupOf K) (by rfl) T.g_tuple (by decide +kernel) (pa_cons (pe_lc (own := [("thing", 4)]) (g := gName 4) rfl sc_kept_to.nd (piT K (pv 3)) (blkOk_by (N := ["book", "lot", "kept", "things", "thing"]) (sc := { kind := PySem.ScopeKind.function, names := [ (PySem.Str.ofString ".0", PySem.NameKind.local), (PySem.Str.ofString "things", PySem.NameKind.local), (PySem.Str.ofString "tuple", PySem.NameKind.globalImplicit), (PySem.Str.ofString "lot", PySem.NameKind.cell)], isGenerator := false, isCoroutine := false, more := [] : PySem.Scope }) (by decide +kernel)) (fun _ _ _ _ _ => (pg_name (i := 4) (x := "thing") sc_kept_to.nd rfl (Or.inl rfl))) (fun _ _ _ _ _ => (pts_one (pt_cmpR (inS K) (pv 4) (pv 1) (by with_unfolding_all rfl)))) (fun _ _ _ _ _ => (pe_tidx (K := K) (pv 1) (pa_cons (pv 4) pa_nil)))) pa_nil))))
  (pss_one (ps_ret (pe_tup (pa_cons (pe_callB (lenS K) (by rfl) T.g_len (by decide +kernel) (pa_cons (pv 1) pa_nil)) (pa_cons (pe_callTy (tupOf K) (by rfl) T.g_tuple (by decide +kernel) (pa_cons (pe_lc (own := [("things", 3)]) (g := gName 3) rfl sc_kept_to.nd (piL K (pv 2)) (blkOk_by (N := ["book", "lot", "kept", "things", "thing"]) (sc := defScope s_kept_to) (by decide +kernel)) (fun _ _ _ _ _ => (pg_name (i := 3) (x := "things") sc_kept_to.nd rfl (Or.inl rfl))) (fun _ _ _ _ _ => (pts_one (pt_cmpR op_ge (pe_callB (lenS K) (by rfl) T.g_len (by decide +kernel) (pa_cons (pv 3) pa_nil)) pe_int (nomark _)))) (fun _ _ _ _ _ => (pv 3))) pa_nil)) pa_nil))))))), ?_⟩
    refine ⟨_, rfl, _, _, _, _, rfl, rfl, hb, rfl, _, rfl, n, u, d, rfl, hu, fun H1 s1 => ⟨_, rfl, ?_⟩⟩
    cases e : isLot n d with
    | false =>
      have ek : keptTo n rows d = .error ("lot", -1) := by simp [keptTo, e]
      rw [ek] at k
      refine iteF ⟨false, _, rfl, (fun z => by cases z), fun _ => k.same s1⟩
    | true =>
      have e2 : areBelow n d = true := by
        unfold isLot at e
        rw [Bool.and_eq_true] at e
        exact e.1
      have ed := areBelow_tup e2
      rw [ed] at hu
      obtain ⟨a, rfl, ta⟩ := hu.tupI
      generalize hlot : dInts d = lot at *
      have ta1 := ta.same s1
      refine iteT ⟨_, rfl, _, _, rfl, .inr ta1.1, _, _, rfl, rfl, _, _, rfl, (fun hc => ?_), fun hc => ?_⟩
      rotate_left
      · have ek : keptTo n rows d = .error ("lot", -1) := by
          unfold keptTo
          rw [e, hlot, if_neg]
          simp only [List.length_map] at hc
          simp
          simp at hc
          exact hc
        rw [ek] at k
        exact k.same s1
      have hpos : 0 < lot.length := by
        simp only [List.length_map] at hc
        simpa using hc
      have ek : keptTo n rows d = .ok (bookD lot.length (keptRows lot rows)) := by
        unfold keptTo
        rw [e, hlot, if_pos]
        simpa using hpos
      rw [ek] at k
      -- kept
      refine ⟨_, rfl, _, _, _, _, rfl, rfl, seqT s1 hb, rfl, L, rfl, ⟨_, seqT s1 hL⟩, fun D hD => ?_⟩
      refine lcT (K := K) (xs := xs) (fun _ => true) (fun j => dTup (keptRow lot (rows.getD j []))) hD (seqT s1 hL) hz (fun j _ _ => noL_dTup _) (fun i v H2 hi s2 Q1 Q2 k1 k2 => ?_) (fun ys H2 s2 hy r2 => ?_)
      · obtain ⟨ns, a2, hn, rfl, t⟩ := hr2.row hi
        have s02 := s1.trans s2
        have t := t.same s02
        have ta2 := ta.same s02
        have en : rows.getD i [] = ns := by rw [List.getD_eq_getElem?_getD, hn]; rfl
        rw [en] at k1
        refine ⟨rfl, _, rfl, a2, rfl, ⟨_, t.1⟩, fun D2 hD2 => ?_⟩
        refine lcT (K := K) (xs := ns.map V.int) (fun j => decide (ns.getD j 0 ∈ lot)) (fun j => .int ((lot.idxOf (ns.getD j 0) : Nat) : Int)) hD2 t.1 (by rw [List.length_map]; exact t.2) (fun _ _ _ => rfl) (fun j v H3 hj s3 Q3 Q4 k3 k4 => ?_) (fun zs H3 s3 hz3 r3 => ?_)
        · have ev : v = .int (ns.getD j 0) := by
            have hl : j < ns.length := by
              have := (List.getElem?_eq_some_iff.mp hj).1
              simpa using this
            rw [mapD hl] at hj
            exact (Option.some.inj hj).symm
          subst ev
          have ta3 := ta2.same s3
          refine ⟨rfl, _, rfl, _, rfl, a, _, rfl, .inr ta3.1, rfl, flat_ints lot, _, rfl, ?_⟩
          show if inV (.int _) (lot.map V.int) = true then _ else _
          rw [inV_int]
          by_cases c : ns.getD j 0 ∈ lot
          · rw [decide_eq_true c]
            refine iteT ⟨_, rfl, a, _, rfl, ta3.1, (dn (by rw [← ed] at *; exact e) hpos).same (s02.trans s3), _, rfl, _, rfl, ta3.1, c, ?_⟩
            exact k3 (decide_eq_true c) _ _ (Same.refl _) (.int _)
          · rw [decide_eq_false c]
            exact iteF (k4 (decide_eq_false c) _ (Same.refl _))
        · have ez : (((List.range (ns.map V.int).length).filter fun j => decide (ns.getD j 0 ∈ lot)).map fun j => PyData.int ((lot.idxOf (ns.getD j 0) : Nat) : Int)) = (keptRow lot ns).map PyData.int := by
            rw [List.length_map, keptRow, List.map_map, ← filter_map_range (fun x => decide (x ∈ lot)) _ 0 ns]
            rfl
          rw [ez] at r3
          have := r3.ofInts
          subst this
          refine tupL_use (SqL.of hz3) fun p H4 s4 hp => ?_
          exact k1 rfl _ _ (s3.trans s4) (TupI.rp ⟨hp, Nat.le_trans (by unfold keptRow; rw [List.length_map]; exact List.length_filter_le _ _) t.2⟩)
      · rw [filter_true] at r2
        have ez : (List.range xs.length).map (fun j => dTup (keptRow lot (rows.getD j []))) = (rows.map (keptRow lot)).map dTup := by
          rw [hr2.length, List.length_map, List.map_map]
          exact map_range (fun r => dTup (keptRow lot r)) [] rows
        rw [ez] at r2
        have s02 := s1.trans s2
        have lz : ys.length ≤ 1000 := by rw [r2.length, List.length_map, List.length_map, ← List.length_map (f := dTup), ← hr2.length]; exact hz
        refine ⟨_, rfl, _, _, rfl,   .inr (ta.same s02).1, _, rfl, _, rfl, ⟨_, SqL.of hy⟩, fun D2 hD2 => ?_⟩
        refine lcL (K := K) (xs := ys) (fun j => decide (2 ≤ (keptRow lot (rows.getD j [])).length)) (fun j => dTup (keptRow lot (rows.getD j []))) hD2 (SqL.of hy) lz (fun _ _ _ => noL_dTup _) (fun j v H3 hj s3 Q3 Q4 k3 k4 => ?_) (fun zs H3 s3 hz3 r3 => ?_)
        · obtain ⟨ns, a2, hn, rfl, t⟩ := r2.row hj
          have t := t.same s3
          have en : keptRow lot (rows.getD j []) = ns := by
            rw [List.getElem?_map] at hn
            rw [List.getD_eq_getElem?_getD]
            cases hq : rows[j]? with
            | none => rw [hq] at hn; cases hn
            | some r => rw [hq] at hn; exact Option.some.inj hn
          rw [en] at k3 k4
          refine ⟨rfl, _, rfl, _, _, rfl, .inr t.1, _, _, rfl, rfl, _, rfl, ?_⟩
          rw [List.length_map]
          by_cases c : 2 ≤ ns.length
          · rw [decide_eq_true (show (2 : Int) ≤ (ns.length : Nat) by omega)]
            exact iteT ⟨_, rfl, k3 (decide_eq_true c) _ _ (Same.refl _) t.rp⟩
          · rw [decide_eq_false (show ¬ (2 : Int) ≤ (ns.length : Nat) by omega)]
            exact iteF (k4 (decide_eq_false c) _ (Same.refl _))
        · have ez2 : (((List.range ys.length).filter fun j => decide (2 ≤ (keptRow lot (rows.getD j [])).length)).map fun j => dTup (keptRow lot (rows.getD j []))) = (keptRows lot rows).map dTup := by
            have el : ys.length = rows.length := by rw [r2.length, List.length_map, List.length_map]
            rw [el, filter_map_range (fun r => decide (2 ≤ (keptRow lot r).length)) (fun r => dTup (keptRow lot r)) [] rows]
            unfold keptRows
            rw [List.filter_map, List.map_map]
            rfl
          rw [ez2] at r3
          have lz3 : zs.length ≤ 1000 := by
            rw [r3.length, List.length_map]
            unfold keptRows
            refine Nat.le_trans (List.length_filter_le _ _) ?_
            rw [List.length_map, ← List.length_map (f := dTup), ← hr2.length]
            exact hz
          dsimp only [tNil]
          refine tupL_use (SqL.of hz3) fun p H4 s4 hp => ⟨(by show 2 ≤ sizeLine; decide), fun q hq => ?_⟩
          refine k _ _ (((s1.trans s2).trans s3).trans (s4.trans (same_upd hq))) ?_
          rw [List.length_map]
          exact rp_bookNew hp lz3 (r3.same s4) hq
end
end LK
namespace LK
open PySem PySem.Spec PyProof.Rows L2
def natI (l : List Nat) : List Int := l.map fun (i : Nat) => (i : Int)
def spMask (K : PySem.W.Frag) : Sp := fun vs H Q _ => ∃ a ns, vs = [.ref a] ∧ (SqL K H a (ns.map V.int) ∨ SqT K H a (ns.map V.int)) ∧ (∀ x ∈ ns, 0 ≤ x ∧ x ≤ 1000) ∧ Q (.int (maskL ns : Nat)) H
def spThings (K : PySem.W.Frag) : Sp := fun vs H Q _ => ∃ (m B : Nat), vs = [.int m] ∧ m < 2 ^ B ∧ B ≤ 1000 ∧ ∀ a H', Same H H' → TupI K H' a (natI (bitL B m)) → Q (.ref a) H'
/-- near of a book: each thing's mask -/
def NearOk (n : Int) (rows : List (List Int)) (ms : List Nat) : Prop := ms.length = n.toNat ∧ ∀ (x m : Nat), ms[x]? = some m → ∀ y : Nat, m.testBit y = decide (x ≠ y ∧ tiedB rows x y = true)
def spNear (K : PySem.W.Frag) : Sp := fun vs H Q _ => ∃ v n rows, vs = [v] ∧ Rp K H v (bookD n rows) ∧ RowsIn n rows ∧ 0 ≤ n ∧ n ≤ 1000 ∧ ∀ p ms H', Same H H' → H p = none → H' p = some (.lst ((natI ms).map V.int)) → NearOk n rows ms → Q (.ref p) H'
theorem maskL_take {ns : List Int} {i : Nat} {x : Int} (h : ns[i]? = some x) : maskL (ns.take (i + 1)) = maskL (ns.take i) ||| 2 ^ x.toNat := by
  unfold maskL
  have e : ns.take (i + 1) = ns.take i ++ [x] := by
    have hl := (List.getElem?_eq_some_iff.mp h).1
    rw [List.take_succ, h]
    rfl
  rw [e, List.foldl_append]
  rfl
theorem intAt {ns : List Int} {i : Nat} {v : V} (h : (ns.map V.int)[i]? = some v) : ∃ x, ns[i]? = some x ∧ v = .int x := by
  rw [List.getElem?_map] at h
  cases e : ns[i]? with
  | none => rw [e] at h; cases h
  | some x => rw [e] at h; exact ⟨x, rfl, (Option.some.inj h).symm⟩
theorem shl1 {x : Int} (h0 : 0 ≤ x) : (1 : Int) * 2 ^ x.toNat = ((2 ^ x.toNat : Nat) : Int) := by
  rw [Int.one_mul]
  norm_cast
theorem near_step {n : Int} {rows : List (List Int)} {r : List Int} {i : Nat} (h : rows[i]? = some r) (x y : Int) : tiedB (rows.take (i + 1)) x y = (tiedB (rows.take i) x y || (decide (x ∈ r) && decide (y ∈ r))) := by
  unfold tiedB
  have e : rows.take (i + 1) = rows.take i ++ [r] := by
    rw [List.take_succ, h]
    rfl
  rw [e, List.any_append]
  simp
section
variable {P : Program} {w : World} {K : PySem.W.Frag} {mg : Str → Option Value} {base : Heap} {ad : Nat → Addr} {fd : Nat → FuncData}
theorem ok_mask_of (T : Txt K mg ad fd) : FnOk P w K mg base CX0 1 (ad 32) (fd 32) ["things"] (spMask K) := by
  refine T.F_mask_of.ok sc_mask_of (fun vs H Q E h => ?_) (fun cdv A outer s H vs Q E hr h => ?_)
  · obtain ⟨a, ns, rfl, _⟩ := h
    rfl
  · obtain ⟨a, ns, rfl, hs, hb, k⟩ := h
    refine ⟨_, (pss_cons (ps_set (i := 1) sc_mask_of.nd rfl (Or.inl rfl) pe_int)
  (pss_cons (ps_for PassesOwn.never rfl (piS K (pv 0)) (pg_name (i := 2) (x := "thing") sc_mask_of.nd rfl (Or.inl rfl))
  (pss_one (ps_set (i := 1) sc_mask_of.nd rfl (Or.inl rfl) (pe_op op_or (pv 1) (pe_op op_shl pe_int (pv 2))))))
  (pss_one (ps_ret (pv 1))))), ?_⟩
    have turn : ∀ (i : Nat) (v : V) (σ : L2.St) (H1 : Hp), (ns.map V.int)[i]? = some v → (∃ u, σ = [some (.ref a), some (.int (maskL (ns.take i) : Nat)), u] ∧ H1 = H) →
      gName 2 v σ H1 fun σ2 H2 => ∃ z, σ2[1]? = some (some z) ∧ ∃ i1 j, 1 = i1 ∧ σ2[2]? = some (some (.int j)) ∧ CPow i1 j ∧ ∃ x y, z = .int x ∧ (.int (i1 * 2 ^ j.toNat) : V) = .int y ∧ (∃ u, σ2.set 1 (some (.int (Builtin.bitOr x y))) = [some (.ref a), some (.int (maskL (ns.take (i + 1)) : Nat)), u] ∧ H2 = H) := by
      rintro i v σ H1 hi ⟨u, rfl, rfl⟩
      obtain ⟨x, hx, rfl⟩ := intAt hi
      obtain ⟨h0, h1⟩ := hb x (List.mem_of_getElem? hx)
      refine ⟨_, rfl, 1, x, rfl, rfl, ⟨h0, by omega, by decide⟩, _, _, rfl, rfl, some (.int x), ?_, rfl⟩
      rw [shl1 h0, or_nat, ← maskL_take hx]
      rfl
    have fin : ∀ (σ : L2.St) (H1 : Hp), (∃ u, σ = [some (.ref a), some (.int (maskL (ns.take (ns.map V.int).length) : Nat)), u] ∧ H1 = H) → ∃ z, σ[1]? = some (some z) ∧ Q z H1 := by
      rintro σ H1 ⟨u, rfl, rfl⟩
      refine ⟨_, rfl, ?_⟩
      rw [List.length_map, List.take_length]
      exact k
    refine ⟨_, rfl, a, rfl, ?_⟩
    rcases hs with hs | hs
    · refine .inl ⟨⟨_, hs⟩, for_list (K := K) (a := a) (xs := ns.map V.int) (fun i σ H1 => ∃ u, σ = [some (.ref a), some (.int (maskL (ns.take i) : Nat)), u] ∧ H1 = H) ⟨none, rfl, rfl⟩ (fun i σ H1 _ ⟨_, _, e⟩ => by rw [e]; exact hs) (fun i v σ H1 hi hp => ?_) fin⟩
      obtain ⟨z, h1, i1, j, rfl, h2, h3, x, y, h4, h5, h6⟩ := turn i v σ H1 hi hp
      exact ⟨z, h1, _, h2, _, _, rfl, rfl, h3, x, y, h4, h5, h6⟩
    · refine .inr ⟨⟨_, hs⟩, for_tup (K := K) (a := a) (xs := ns.map V.int) (fun i σ H1 => ∃ u, σ = [some (.ref a), some (.int (maskL (ns.take i) : Nat)), u] ∧ H1 = H) ⟨none, rfl, rfl⟩ (fun i σ H1 _ ⟨_, _, e⟩ => by rw [e]; exact hs) (fun i v σ H1 hi hp => ?_) fin⟩
      obtain ⟨z, h1, i1, j, rfl, h2, h3, x, y, h4, h5, h6⟩ := turn i v σ H1 hi hp
      exact ⟨z, h1, _, h2, _, _, rfl, rfl, h3, x, y, h4, h5, h6⟩
theorem ok_things_of (T : Txt K mg ad fd) : FnOk P w K mg base CX0 1 (ad 33) (fd 33) ["mask"] (spThings K) := by
  refine T.F_things_of.ok sc_things_of (fun vs H Q E h => ?_) (fun cdv A outer s H vs Q E hr h => ?_)
  · obtain ⟨m, B, rfl, _⟩ := h
    rfl
  · obtain ⟨m, B, rfl, hm, hB, k⟩ := h
    refine ⟨_, (pss_cons (ps_set (i := 1) sc_things_of.nd rfl (Or.inl rfl) (pe_lst pa_nil))
  (pss_cons (ps_set (i := 2) sc_things_of.nd rfl (Or.inl rfl) (pv 0))
  (pss_cons (ps_while PassesOwn.never (pt_truth (pv 2) (by intro _; rfl))
  (pss_cons (ps_set (i := 3) sc_things_of.nd rfl (Or.inl rfl) (pe_op op_and (pv 2) (pe_un un_neg (pv 2))))
  (pss_cons (ps_expr (pe_bmK K PySem.F.plainAttrs_list PySem.F.slot_list_append PySem.F.type_list_append mt_append (pv 1) (pa_cons (pe_op op_sub (pe_bits (pv 3)) pe_int) pa_nil)))
  (pss_one (ps_set (i := 2) sc_things_of.nd rfl (Or.inl rfl) (pe_op op_xor (pv 2) (pv 3)))))))
  (pss_one (ps_ret (pe_callTy (tupOf K) (by rfl) T.g_tuple (by decide +kernel) (pa_cons (pv 1) pa_nil))))))), ?_⟩
    refine ⟨(by show 0 ≤ sizeLine; decide), fun D hD => ⟨_, rfl, ?_⟩⟩
    have lb : ∀ z, (bitL B z).length ≤ B := fun z => by
      unfold bitL
      exact Nat.le_trans (List.length_filter_le _ _) (by rw [List.length_range]; exact Nat.le_refl _)
    show tWhile (fun σ H1 Q => tVar 2 σ H1 fun x H' => ∃ k, TruV K x H' k ∧ Q k H') _ _ [some (V.int (m : Nat)), some (V.ref D), some (V.int (m : Nat)), none] _
    refine while_by (fun σ H1 => ∃ (m' : Nat) (fs : List Nat) (lw : Option V), σ = [some (.int (m : Nat)), some (.ref D), some (.int (m' : Nat)), lw] ∧ Fill H D H1 ((natI fs).map V.int) ∧ m' < 2 ^ B ∧ fs ++ bitL B m' = bitL B m)
      (fun (σ : L2.St) (_ : Hp) => match σ[2]? with | some (some (V.int z)) => (bitL B z.toNat).length | _ => 0) ⟨m, [], none, rfl, Fill.start hD, hm, rfl⟩ (fun σ H1 hp => ?_) (fun σ H1 Q1 Q2 hq ⟨v, e, kk, t, q⟩ => ⟨v, e, kk, t, hq _ _ q⟩)
    obtain ⟨m', fs, lw, rfl, fl, hm', he⟩ := hp
    refine ⟨_, rfl, _, rfl, ?_⟩
    by_cases c : m' = 0
    · subst c
      have ec : (((0 : Nat) : Int) != 0) = false := by decide
      rw [ec]
      refine iteF ⟨_, rfl, ?_⟩
      rw [bitL_zero, List.append_nil] at he
      subst he
      dsimp only [tNil]
      exact tupL_use (SqL.of fl.2) fun p H2 s2 hp => k _ _ (fl.1.trans s2) ⟨hp, by unfold natI; rw [List.length_map]; exact Nat.le_trans (lb m) hB⟩
    · have ec : (((m' : Nat) : Int) != 0) = true := by
        simp
        exact c
      rw [ec]
      obtain ⟨t, h1, h2, h3⟩ := and_neg (m := m') (by omega)
      refine iteT ⟨_, rfl, _, rfl, _, rfl, _, _, rfl, rfl, ?_⟩
      show ∃ v, _
      have lf : fs.length ≤ B := by
        have := lb m
        rw [← he, List.length_append] at this
        omega
      have hs := bitL_step hm' h2 h3
      refine ⟨_, rfl, .inl ⟨rfl, _, SqL.of fl.2⟩, _, rfl, _, rfl, _, _, rfl, rfl, D, _, _, rfl, rfl, fl.2, ?_, ?_⟩
      · unfold natI
        rw [List.length_map, List.length_map]
        exact small1000 (by omega)
      · have ex : Builtin.bitXor (m' : Int) (Builtin.bitAnd (m' : Int) (-(m' : Int))) = ((m' ^^^ 2 ^ t : Nat) : Int) := by rw [h1, xor_nat]
        have eb : ((Builtin.Int.intBits (Builtin.bitAnd (m' : Int) (-(m' : Int))) : Nat) : Int) - 1 = (t : Nat) := by
          rw [h1, bits_pow]
          omega
        refine ⟨_, rfl, _, rfl, _, _, rfl, rfl, ⟨m' ^^^ 2 ^ t, fs ++ [t], _, congrArg (fun z => [some (V.int (m : Nat)), some (V.ref D), some (V.int z), some (V.int (Builtin.bitAnd (m' : Int) (-(m' : Int))))]) ex, ?_, xor_lt hm' h2, ?_⟩, ?_⟩
        · have e3 : (natI (fs ++ [t])).map V.int = (natI fs).map V.int ++ [V.int (((Builtin.Int.intBits (Builtin.bitAnd (m' : Int) (-(m' : Int))) : Nat) : Int) - 1)] := by
            rw [eb]
            unfold natI
            rw [List.map_append, List.map_append]
            rfl
          rw [e3]
          exact fl.push hD (Same.refl _)
        · rw [List.append_assoc, List.singleton_append, ← hs]
          exact he
        · show (bitL B (Builtin.bitXor (m' : Int) (Builtin.bitAnd (m' : Int) (-(m' : Int)))).toNat).length < (bitL B ((m' : Nat) : Int).toNat).length
          rw [ex]
          have e4 : ((m' : Nat) : Int).toNat = m' := by omega
          have e5 : ((m' ^^^ 2 ^ t : Nat) : Int).toNat = m' ^^^ 2 ^ t := by omega
          rw [e4, e5, hs]
          exact Nat.lt_succ_self _
end
end LK
namespace LK
open PySem PySem.Spec PyProof.Rows L2
theorem natI_length (l : List Nat) : (natI l).length = l.length := by unfold natI; rw [List.length_map]
theorem natI_get {l : List Nat} {i m : Nat} (h : l[i]? = some m) : ((natI l).map V.int)[i]? = some (.int (m : Nat)) := by
  unfold natI
  rw [List.map_map, List.getElem?_map, h]
  rfl
theorem natI_set {l : List Nat} {i m : Nat} : ((natI l).map V.int).set i (.int (m : Nat)) = (natI (l.set i m)).map V.int := by
  unfold natI
  rw [List.map_map, List.map_map, List.map_set]
  rfl
theorem ixN_nat {n j : Nat} (hj : j < n) : ixN n (j : Int) = some j := by
  unfold ixN
  rw [if_pos (by omega), if_pos (by omega)]
  simp
/-- within row r, behind j of its things -/
def NearIn (n : Int) (rows : List (List Int)) (r done : List Int) (ms : List Nat) : Prop :=
  ms.length = n.toNat ∧ ∀ (x m : Nat), ms[x]? = some m → ∀ y : Nat, m.testBit y = decide (x ≠ y ∧ (tiedB rows x y = true ∨ ((x : Int) ∈ done ∧ (y : Int) ∈ r)))
theorem near_in_step {n : Int} {rows : List (List Int)} {r : List Int} {j : Nat} {x : Nat} {ms : List Nat} {m : Nat} (hr : ∀ z ∈ r, 0 ≤ z) (h : r[j]? = some (x : Int)) (N : NearIn n rows r (r.take j) ms) (hm : ms[x]? = some m) :
    NearIn n rows r (r.take (j + 1)) (ms.set x (m ||| (maskL r ^^^ 2 ^ x))) := by
  obtain ⟨hl, hb⟩ := N
  have hx : x < ms.length := (List.getElem?_eq_some_iff.mp hm).1
  have hxr : (x : Int) ∈ r := List.mem_of_getElem? h
  have et : r.take (j + 1) = r.take j ++ [(x : Int)] := by
    rw [List.take_succ, h]
    rfl
  refine ⟨by rw [List.length_set]; exact hl, fun z m2 hz y => ?_⟩
  rw [et]
  by_cases e : z = x
  · subst e
    rw [List.getElem?_set_self hx] at hz
    cases hz
    rw [Nat.testBit_or, xor_pow, hb z m hm y, maskL_bit hr]
    by_cases e2 : z = y
    · subst e2
      simp [hxr]
    · by_cases hy : (y : Int) ∈ r
      · simp [e2, hy]
      · simp [e2, hy]
  · rw [List.getElem?_set_ne (fun q => e q.symm)] at hz
    rw [hb z m2 hz y]
    have : ¬ ((z : Int) = (x : Int)) := fun q => e (by omega)
    simp [this]
theorem near_in_end {n : Int} {rows : List (List Int)} {r : List Int} {i : Nat} {ms : List Nat} (h : rows[i]? = some r) (N : NearIn n (rows.take i) r r ms) : NearOk n (rows.take (i + 1)) ms := by
  refine ⟨N.1, fun x m hm y => ?_⟩
  rw [N.2 x m hm y, near_step (n := n) h]
  congr 1
  apply propext
  simp [Bool.or_eq_true, Bool.and_eq_true]
theorem near_in_start {n : Int} {rows : List (List Int)} {r : List Int} {ms : List Nat} (N : NearOk n rows ms) : NearIn n rows r [] ms :=
  ⟨N.1, fun x m hm y => by rw [N.2 x m hm y]; simp⟩
theorem near_start (n : Int) : NearOk n [] (List.replicate n.toNat 0) :=
  ⟨List.length_replicate, fun x m hm y => by
    have hmem := List.mem_of_getElem? hm
    rw [(List.mem_replicate.mp hmem).2]
    simp [tiedB]⟩
theorem flat_zero (k : Nat) : (List.replicate k [V.int 0]).flatten = (natI (List.replicate k 0)).map V.int := by
  induction k with
  | zero => rfl
  | succ k ih =>
    rw [List.replicate_succ, List.flatten_cons, ih]
    rfl
theorem rowAt {rows : List (List Int)} {n : Int} (h : RowsIn n rows) {i : Nat} {r : List Int} (e : rows[i]? = some r) : ∀ x ∈ r, 0 ≤ x ∧ x < n := h r (List.mem_of_getElem? e)
theorem same_upd2 {H H1 : Hp} {N : Addr} {o : HO} (n : H N = none) (s : Same H H1) : Same H (upd H1 N o) := fun b u e => by
  rw [upd_ne (ne_of_none e n)]
  exact s _ _ e
section
variable {P : Program} {w : World} {K : PySem.W.Frag} {mg : Str → Option Value} {base : Heap} {ad : Nat → Addr} {fd : Nat → FuncData}
theorem ok_near_masks (T : Txt K mg ad fd) : FnOk P w K mg base CX0 2 (ad 35) (fd 35) ["book"] (spNear K) := by
  refine T.F_near_masks.ok sc_near_masks (fun vs H Q E h => ?_) (fun cdv A outer s H vs Q E hr h => ?_)
  · obtain ⟨v, n, rows, rfl, _⟩ := h
    rfl
  · obtain ⟨v, n, rows, rfl, h, hin, h0, h1, k⟩ := h
    obtain ⟨b, L, xs, rfl, hb, hL, hz, hr2⟩ := rp_book h
    have lx : xs.length = rows.length := by rw [hr2.length, List.length_map]
    refine ⟨_, (pss_cons (ps_asg (pv 0) (pg_tup rfl (pgs_cons (pg_name (i := 3) (x := "size") sc_near_masks.nd rfl (Or.inl rfl)) (pgs_cons (pg_name (i := 4) (x := "lists") sc_near_masks.nd rfl (Or.inl rfl)) pgs_nil))))
  (pss_cons (ps_set (i := 1) sc_near_masks.nd rfl (Or.inl rfl) (pe_op op_rep (pe_lst (pa_cons pe_int pa_nil)) (pv 3)))
  (pss_cons (ps_for PassesOwn.never rfl (piT K (pv 4)) (pg_name (i := 2) (x := "things") sc_near_masks.nd rfl (Or.inl rfl))
  (pss_cons (ps_set (i := 5) sc_near_masks.nd rfl (Or.inl rfl) (pe_call (ok_mask_of T) (hr.mono (by decide)) rfl T.m_mask_of T.F_mask_of.kp (b_mask_of T) .nil pass0 (pa_cons (pv 2) pa_nil)))
  (pss_one (ps_for PassesOwn.never rfl (piT K (pv 2)) (pg_name (i := 6) (x := "thing") sc_near_masks.nd rfl (Or.inl rfl))
  (pss_one (ps_asg (pe_op op_or (pe_ix (ixL K) (pv 1) (pv 6) (fun _ _ => rfl)) (pe_op op_xor (pv 5) (pe_op op_shl pe_int (pv 6)))) (pg_sub (pv 1) (pv 6) set_list)))))))
  (pss_one (ps_ret (pv 1)))))), ?_⟩
    refine ⟨_, rfl, b, _, rfl, hb, rfl, _, _, rfl, _, _, rfl, rfl, (by show 1 ≤ sizeLine; decide), fun D0 hD0 => ⟨_, rfl, D0, n, _, rfl, rfl, upd_same, by omega, by omega, ?_, fun N hN0 => ?_⟩⟩
    · show 1 * n.toNat ≤ sizeLine
      have : (1000 : Nat) ≤ sizeLine := by decide
      omega
    have hN : H N = none := (same_upd hD0).free hN0
    refine ⟨_, rfl, L, rfl, ⟨_, seqT (same_upd2 hN (same_upd hD0)) hL⟩, for_tup (K := K) (a := L) (xs := xs)
      (fun i σ H1 => ∃ (ms : List Nat) (v2 v5 v6 : Option V), σ = [some (.ref b), some (.ref N), v2, some (.int n), some (.ref L), v5, v6] ∧ Same H H1 ∧ H1 N = some (.lst ((natI ms).map V.int)) ∧ NearOk n (rows.take i) ms)
      ⟨List.replicate n.toNat 0, none, none, none, rfl, same_upd2 hN (same_upd hD0), by rw [upd_same, flat_zero], near_start n⟩ (fun i σ H1 _ ⟨_, _, _, _, _, s1, _⟩ => seqT s1 hL) (fun i x σ H1 hi ⟨ms, v2, v5, v6, e1, s1, hm1, nk⟩ => ?_) (fun σ H1 ⟨ms, v2, v5, v6, e1, s1, hm1, nk⟩ => ?_)⟩
    · subst e1
      obtain ⟨r, a, hrow, rfl, t⟩ := hr2.row hi
      have hin2 := rowAt hin hrow
      have t1 := t.same s1
      refine ⟨_, rfl, a, r, rfl, .inr t1.1, fun x hx => ⟨(hin2 x hx).1, by have := (hin2 x hx).2; omega⟩, ?_⟩
      refine ⟨_, rfl, a, rfl, ⟨_, t1.1⟩, for_tup (K := K) (a := a) (xs := r.map V.int)
        (fun j σ H1 => ∃ (ms : List Nat) (v6 : Option V), σ = [some (.ref b), some (.ref N), some (.ref a), some (.int n), some (.ref L), some (.int (maskL r : Nat)), v6] ∧ Same H H1 ∧ H1 N = some (.lst ((natI ms).map V.int)) ∧ NearIn n (rows.take i) r (r.take j) ms)
        ⟨ms, v6, rfl, s1, hm1, near_in_start nk⟩ (fun i σ H1 _ ⟨_, _, _, s1, _⟩ => seqT s1 t.1) (fun j x σ H2 hj ⟨ms2, v62, e2, s2, hm2, nk2⟩ => ?_) (fun σ H2 ⟨ms2, v62, e2, s2, hm2, nk2⟩ => ?_)⟩
      · subst e2
        obtain ⟨z, hz2, rfl⟩ := intAt hj
        obtain ⟨hz0, hz1⟩ := hin2 z (List.mem_of_getElem? hz2)
        obtain ⟨x, rfl⟩ : ∃ x : Nat, z = (x : Int) := ⟨z.toNat, by omega⟩
        have hxl : x < ms2.length := by rw [nk2.1]; omega
        obtain ⟨m, hm⟩ : ∃ m, ms2[x]? = some m := ⟨ms2[x], List.getElem?_eq_getElem hxl⟩
        refine ⟨_, rfl, _, rfl, N, _, _, _, rfl, rfl, SqL.of hm2, atI_nat (natI_get hm), ?_⟩
        refine ⟨_, rfl, _, rfl, 1, (x : Int), rfl, rfl, ⟨by omega, by omega, by decide⟩, _, _, rfl, rfl, _, _, rfl, rfl, _, rfl, _, rfl, N, _, (x : Int), x, rfl, rfl, hm2, ixN_nat (by rw [List.length_map, natI_length]; exact hxl), ?_⟩
        have ez : Builtin.bitOr (m : Int) (Builtin.bitXor (maskL r : Int) (1 * 2 ^ ((x : Int)).toNat)) = ((m ||| (maskL r ^^^ 2 ^ x) : Nat) : Int) := by
          rw [shl1 (by omega), xor_nat, or_nat]
          rfl
        refine ⟨ms2.set x (m ||| (maskL r ^^^ 2 ^ x)), _, rfl, same_upd2 hN s2, ?_, near_in_step (fun z hz => (hin2 z hz).1) hz2 nk2 hm⟩
        rw [upd_same]
        show some (HO.lst (((natI ms2).map V.int).set x (.int (Builtin.bitOr (m : Int) (Builtin.bitXor (maskL r : Int) (1 * 2 ^ ((x : Int)).toNat)))))) = _
        rw [ez, natI_set]
      · subst e2
        refine ⟨ms2, _, _, _, rfl, s2, hm2, ?_⟩
        rw [List.length_map, List.take_length] at nk2
        exact near_in_end hrow nk2
    · subst e1
      refine ⟨_, rfl, k N ms H1 s1 hN hm1 ?_⟩
      rw [lx, List.take_length] at nk
      exact nk
end
end LK
namespace LK
open PySem PySem.Spec PyProof.Rows L2
def nearN (n : Int) (rows : List (List Int)) (x : Int) : List Nat := (List.range n.toNat).filter fun (y : Nat) => decide (x ≠ (y : Int) ∧ tiedB rows x y = true)
theorem tied_mem {rows : List (List Int)} {x y : Int} (h : tiedB rows x y = true) : ∃ r ∈ rows, x ∈ r ∧ y ∈ r := by
  unfold tiedB at h
  obtain ⟨r, hr, h2⟩ := List.any_eq_true.mp h
  simp at h2
  exact ⟨r, hr, h2⟩
theorem tied_comm (rows : List (List Int)) (x y : Int) : tiedB rows x y = tiedB rows y x := by
  unfold tiedB
  congr 1
  funext r
  exact Bool.and_comm _ _
theorem near_bits {n : Int} {rows : List (List Int)} {ms : List Nat} (hin : RowsIn n rows) (N : NearOk n rows ms) {x m : Nat} (h : ms[x]? = some m) : m < 2 ^ n.toNat ∧ bitL n.toNat m = nearN n rows x := by
  have hb := N.2 x m h
  refine ⟨lt_of_bits fun i hi => ?_, ?_⟩
  · rw [hb i, decide_eq_true_eq] at hi
    obtain ⟨r, hr, _, hy⟩ := tied_mem hi.2
    have := hin r hr _ hy
    omega
  · unfold bitL nearN
    congr 1
    funext y
    rw [hb y]
    congr 1
    apply propext
    constructor
    · rintro ⟨a, b⟩
      exact ⟨by omega, b⟩
    · rintro ⟨a, b⟩
      exact ⟨by omega, b⟩
def nearOfX (n : Int) (rows : List (List Int)) (d : PyData) : Except (Str × Int) PyData := if isBelow n d then .ok (dTup (natI (nearN n rows (toInt d)))) else .error ("here", -1)
def BookIn (n : Int) (rows : List (List Int)) : Prop := RowsIn n rows ∧ 0 ≤ n ∧ n ≤ 1000
def isTiedX (n : Int) (rows : List (List Int)) (d e : PyData) : Except (Str × Int) PyData :=
  if isBelow n d then (if isBelow n e && decide (toInt e ≠ toInt d) then .ok (.bool (tiedB rows (toInt d) (toInt e))) else .error ("there", -1)) else .error ("here", -1)
def betweenN (n : Int) (rows : List (List Int)) (x y : Int) : List Nat := ((List.range n.toNat).filter fun (z : Nat) => decide ((x ≠ (z : Int) ∧ tiedB rows x z = true) ∧ (y ≠ (z : Int) ∧ tiedB rows y z = true))).filter fun (z : Nat) => decide (x < (z : Int)) && decide ((z : Int) < y)
def betweenX (n : Int) (rows : List (List Int)) (d : PyData) : Except (Str × Int) PyData :=
  if isTie n rows d then .ok (dTup (natI (betweenN n rows ((dInts d).getD 0 0) ((dInts d).getD 1 0)))) else .error ("tie", -1)
def spX2 (K : PySem.W.Frag) (C : Addr) (ok : Int → List (List Int) → Prop) (g : Int → List (List Int) → PyData → PyData → Except (Str × Int) PyData) : Sp :=
  fun vs H Q E => ∃ v u1 u2 d1 d2 n rows, vs = [v, u1, u2] ∧ Rp K H v (bookD n rows) ∧ Rp K H u1 d1 ∧ Rp K H u2 d2 ∧ ok n rows ∧ Out K C Q E H (g n rows d1 d2)
def spBetw (K : PySem.W.Frag) : Sp := fun vs H Q _ => ∃ (N : Addr) (x y : Nat) (n : Int) (rows : List (List Int)) (ms : List Nat), vs = [.ref N, .int x, .int y] ∧ H N = some (.lst ((natI ms).map V.int)) ∧ NearOk n rows ms ∧ BookIn n rows ∧ (x : Int) < n ∧ (y : Int) < n ∧
  ∀ p H', Same H H' → TupI K H' p (natI (betweenN n rows x y)) → Q (.ref p) H'
theorem filter_len {α : Type} {p : α → Bool} {l : List α} {k : Nat} (h : l.length ≤ k) : (l.filter p).length ≤ k := Nat.le_trans (List.length_filter_le _ _) h
section
variable {P : Program} {w : World} {K : PySem.W.Frag} {mg : Str → Option Value} {base : Heap} {ad : Nat → Addr} {fd : Nat → FuncData}
theorem ok_is_tied (T : Txt K mg ad fd) : FnOk P w K mg base (L2.CX P w) 5 (ad 43) (fd 43) ["book", "here", "there"] (spX2 K (ad 21) (fun _ _ => True) isTiedX) := by
  refine T.F_is_tied.okX sc_is_tied (fun vs H Q E h => ?_) (fun cdv A outer s H vs Q E hr h => ?_)
  · obtain ⟨v, u1, u2, d1, d2, n, rows, rfl, _⟩ := h
    rfl
  · obtain ⟨v, u1, u2, d1, d2, n, rows, rfl, h, h1, h2, _, k⟩ := h
    refine ⟨_, (pss_cons (ps_expr (pe_call (ok_need T) (hr.mono (by decide)) rfl T.m_need T.F_need.kp (b_need T) .nil (passes_call (takes_of rfl rfl rfl rfl) fun _ _ _ _ h => h) (pa_cons (pe_call (ok_is_thing T) (hr.mono (by decide)) rfl T.m_is_thing T.F_is_thing.kp (b_is_thing T) .nil pass0 (pa_cons (pv 0) (pa_cons (pv 1) pa_nil))) (pa_cons pe_str pa_nil))))
  (pss_cons (ps_expr (pe_call (ok_need T) (hr.mono (by decide)) rfl T.m_need T.F_need.kp (b_need T) .nil (passes_call (takes_of rfl rfl rfl rfl) fun _ _ _ _ h => h) (pa_cons (pe_and (pe_call (ok_is_thing T) (hr.mono (by decide)) rfl T.m_is_thing T.F_is_thing.kp (b_is_thing T) .nil pass0 (pa_cons (pv 0) (pa_cons (pv 2) pa_nil))) (pe_one (pe_cmpR op_ne (pv 2) (pv 1) (nomark _)))) (pa_cons pe_str pa_nil))))
  (pss_one (ps_ret (pe_call (ok_are_tied T) (hr.mono (by decide)) rfl T.m_are_tied T.F_are_tied.kp (b_are_tied T) .nil pass0 (pa_cons (pv 0) (pa_cons (pv 1) (pa_cons (pv 2) pa_nil)))))))), ?_⟩
    refine ⟨_, rfl, _, rfl, v, u1, d1, n, rows, rfl, h, h1, _, _, rfl, (fun hc => ?_), fun hc => ?_⟩
    rotate_left
    · have hc : isBelow n d1 = false := hc
      have ek : isTiedX n rows d1 d2 = .error ("here", -1) := by
        unfold isTiedX
        rw [if_neg (by rw [hc]; exact Bool.false_ne_true)]
      rw [ek] at k
      exact k
    have hc : isBelow n d1 = true := hc
    have ek : isTiedX n rows d1 d2 = (if isBelow n d2 && decide (toInt d2 ≠ toInt d1) then .ok (.bool (tiedB rows (toInt d1) (toInt d2))) else .error ("there", -1)) := by
      unfold isTiedX
      rw [if_pos hc]
    rw [ek] at k
    cases h1 with
    | int x =>
      refine ⟨_, rfl, _, rfl, v, u2, d2, n, rows, rfl, h, h2, _, rfl, ?_⟩
      show if isBelow n d2 = true then _ else _
      cases hc2 : isBelow n d2 with
      | false =>
        rw [hc2, if_neg (by simp)] at k
        exact iteF ⟨false, _, rfl, (fun z => by cases z), fun _ => k⟩
      | true =>
        rw [hc2, Bool.true_and] at k
        cases h2 with
        | int y =>
          refine iteT ⟨_, rfl, _, rfl, rfl, _, _, rfl, (fun hd => ?_), fun hd => ?_⟩
          · have hne : y ≠ x := by
              intro z
              subst z
              simp at hd
            rw [if_pos (decide_eq_true (show toInt (.int y) ≠ toInt (.int x) from hne))] at k
            exact ⟨_, rfl, _, rfl, _, rfl, v, x, y, n, rows, rfl, h, fun H' s => k _ _ s (.bl _)⟩
          · have he : y = x := by
              apply Classical.byContradiction
              intro z
              have : decide (V.int y = V.int x) = false := decide_eq_false (fun q => z (by injection q))
              rw [this] at hd
              cases hd
            subst he
            rw [if_neg (by simp)] at k
            exact k
        | _ => exact absurd hc2 (by simp [isBelow])
    | _ => exact absurd hc (by simp [isBelow])
theorem ok_near_of (T : Txt K mg ad fd) : FnOk P w K mg base (L2.CX P w) 5 (ad 44) (fd 44) ["book", "here"] (spX K (ad 21) (fun n rows _ => BookIn n rows) nearOfX) := by
  refine T.F_near_of.okX sc_near_of (fun vs H Q E h => ?_) (fun cdv A outer s H vs Q E hr h => ?_)
  · obtain ⟨v, u, d, n, rows, rfl, _⟩ := h
    rfl
  · obtain ⟨v, u, d, n, rows, rfl, h, hu, ⟨hin, h0, h1⟩, k⟩ := h
    refine ⟨_, (pss_cons (ps_expr (pe_call (ok_need T) (hr.mono (by decide)) rfl T.m_need T.F_need.kp (b_need T) .nil (passes_call (takes_of rfl rfl rfl rfl) fun _ _ _ _ h => h) (pa_cons (pe_call (ok_is_thing T) (hr.mono (by decide)) rfl T.m_is_thing T.F_is_thing.kp (b_is_thing T) .nil pass0 (pa_cons (pv 0) (pa_cons (pv 1) pa_nil))) (pa_cons pe_str pa_nil))))
  (pss_one (ps_ret (pe_call (ok_things_of T) (hr.mono (by decide)) rfl T.m_things_of T.F_things_of.kp (b_things_of T) .nil pass0 (pa_cons (pe_ix (ixL K) (pe_call (ok_near_masks T) (hr.mono (by decide)) rfl T.m_near_masks T.F_near_masks.kp (b_near_masks T) .nil pass0 (pa_cons (pv 0) pa_nil)) (pv 1) (fun _ _ => rfl)) pa_nil))))), ?_⟩
    refine ⟨_, rfl, _, rfl, v, u, d, n, rows, rfl, h, hu, _, _, rfl, (fun hc => ?_), fun hc => ?_⟩
    rotate_left
    · have hc : isBelow n d = false := hc
      have ek : nearOfX n rows d = .error ("here", -1) := by
        unfold nearOfX
        rw [if_neg (by rw [hc]; exact Bool.false_ne_true)]
      rw [ek] at k
      exact k
    have hc : isBelow n d = true := hc
    have ek : nearOfX n rows d = .ok (dTup (natI (nearN n rows (toInt d)))) := by
      unfold nearOfX
      rw [if_pos hc]
    rw [ek] at k
    cases hu with
    | int x =>
      simp only [isBelow, decide_eq_true_eq] at hc
      obtain ⟨x, rfl⟩ : ∃ z : Nat, x = (z : Int) := ⟨x.toNat, by omega⟩
      refine ⟨_, rfl, v, n, rows, rfl, h, hin, h0, h1, fun p ms H1 s1 hp hm nk => ?_⟩
      have hxl : x < ms.length := by rw [nk.1]; omega
      obtain ⟨m, hm2⟩ : ∃ m, ms[x]? = some m := ⟨ms[x], List.getElem?_eq_getElem hxl⟩
      obtain ⟨hlt, hbl⟩ := near_bits hin nk hm2
      refine ⟨_, rfl, p, _, _, _, rfl, rfl, SqL.of hm, atI_nat (natI_get hm2), m, n.toNat, rfl, hlt, by omega, fun a H2 s2 ta => ?_⟩
      rw [hbl] at ta
      exact k _ _ (s1.trans s2) ta.rp
    | _ => exact absurd hc (by simp [isBelow])
theorem ok_between_in (T : Txt K mg ad fd) : FnOk P w K mg base CX0 2 (ad 45) (fd 45) ["near", "low", "high"] (spBetw K) := by
  refine T.F_between_in.ok sc_between_in (fun vs H Q E h => ?_) (fun cdv A outer s H vs Q E hr h => ?_)
  · obtain ⟨N, x, y, n, rows, ms, rfl, _⟩ := h
    rfl
  · obtain ⟨N, x, y, n, rows, ms, rfl, hN, nk, ⟨hin, h0, h1⟩, hx, hy, k⟩ := h
    have hxl : x < ms.length := by rw [nk.1]; omega
    have hyl : y < ms.length := by rw [nk.1]; omega
    obtain ⟨m1, hm1⟩ : ∃ m, ms[x]? = some m := ⟨ms[x], List.getElem?_eq_getElem hxl⟩
    obtain ⟨m2, hm2⟩ : ∃ m, ms[y]? = some m := ⟨ms[y], List.getElem?_eq_getElem hyl⟩
    obtain ⟨hlt1, _⟩ := near_bits hin nk hm1
    refine ⟨_, (pss_one (ps_ret (pe_callTy (tupOf K) (by rfl) T.g_tuple (by decide +kernel) (pa_cons (pe_lc (own := [("thing", 3)]) (g := gName 3) rfl sc_between_in.nd (piT K (pe_call (ok_things_of T) (hr.mono (by decide)) rfl T.m_things_of T.F_things_of.kp (b_things_of T) .nil pass0 (pa_cons (pe_op op_and (pe_ix (ixL K) (pv 0) (pv 1) (fun _ _ => rfl)) (pe_ix (ixL K) (pv 0) (pv 2) (fun _ _ => rfl))) pa_nil))) (blkOk_by (N := ["near", "low", "high", "thing"]) (sc := defScope s_between_in) (by decide +kernel)) (fun _ _ _ _ _ => (pg_name (i := 3) (x := "thing") sc_between_in.nd rfl (Or.inl rfl))) (fun _ _ _ _ _ => (pts_one (PW.pt (pw_and (pt_cmpR op_lt (pv 1) (pv 3) (nomark _)) (pw_and1 (pt_cmpR op_lt (pv 3) (pv 2) (nomark _))))))) (fun _ _ _ _ _ => (pv 3))) pa_nil)))), ?_⟩
    refine ⟨_, rfl, _, rfl, N, _, _, _, rfl, rfl, SqL.of hN, atI_nat (natI_get hm1), _, rfl, _, rfl, N, _, _, _, rfl, rfl, SqL.of hN, atI_nat (natI_get hm2), _, _, rfl, rfl, ?_⟩
    have ez : Builtin.bitAnd (m1 : Int) (m2 : Int) = ((m1 &&& m2 : Nat) : Int) := and_nat m1 m2
    refine ⟨m1 &&& m2, n.toNat, congrArg (fun z => [V.int z]) ez, Nat.lt_of_le_of_lt Nat.and_le_left hlt1, by omega, fun a H1 s1 ta => ⟨a, rfl, ⟨_, ta.1⟩, fun D hD => ?_⟩⟩
    have ebl : bitL n.toNat (m1 &&& m2) = (List.range n.toNat).filter fun (z : Nat) => decide (((x : Int) ≠ (z : Int) ∧ tiedB rows x z = true) ∧ ((y : Int) ≠ (z : Int) ∧ tiedB rows y z = true)) := by
      unfold bitL
      congr 1
      funext z
      rw [Nat.testBit_and, nk.2 x m1 hm1 z, nk.2 y m2 hm2 z, ← Bool.decide_and]
      congr 1
      apply propext
      constructor
      · rintro ⟨⟨a1, a2⟩, b1, b2⟩
        exact ⟨⟨by omega, a2⟩, by omega, b2⟩
      · rintro ⟨⟨a1, a2⟩, b1, b2⟩
        exact ⟨⟨by omega, a2⟩, by omega, b2⟩
    generalize hl : bitL n.toNat (m1 &&& m2) = l at *
    have hll : l.length ≤ 1000 := by
      rw [← hl]
      exact filter_len (by rw [List.length_range]; omega)
    refine lcT (K := K) (xs := (natI l).map V.int) (fun j => decide ((x : Int) < (natI l).getD j 0) && decide ((natI l).getD j 0 < (y : Int))) (fun j => .int ((natI l).getD j 0)) hD ta.1 (by rw [List.length_map]; exact ta.2) (fun _ _ _ => rfl) (fun j v H2 hj s2 Q1 Q2 k1 k2 => ?_) (fun ys H2 s2 hy2 r2 => ?_)
    · have ev : v = .int ((natI l).getD j 0) := by
        have hl : j < (natI l).length := by
          have := (List.getElem?_eq_some_iff.mp hj).1
          simpa using this
        rw [mapD hl] at hj
        exact (Option.some.inj hj).symm
      subst ev
      refine ⟨rfl, _, rfl, _, rfl, _, _, rfl, rfl, _, rfl, ?_⟩
      by_cases c1 : (x : Int) < (natI l).getD j 0
      · rw [decide_eq_true c1]
        refine iteT ⟨_, rfl, _, rfl, _, _, rfl, rfl, _, rfl, ?_⟩
        by_cases c2 : (natI l).getD j 0 < (y : Int)
        · rw [decide_eq_true c2]
          exact iteT ⟨_, rfl, k1 (by rw [decide_eq_true c1, decide_eq_true c2]; rfl) _ _ (Same.refl _) (.int _)⟩
        · rw [decide_eq_false c2]
          exact iteF (k2 (by rw [decide_eq_false c2]; exact Bool.and_false _) _ (Same.refl _))
      · rw [decide_eq_false c1]
        exact iteF (k2 (by rw [decide_eq_false c1]; rfl) _ (Same.refl _))
    · have ez2 : (((List.range ((natI l).map V.int).length).filter fun j => decide ((x : Int) < (natI l).getD j 0) && decide ((natI l).getD j 0 < (y : Int))).map fun j => PyData.int ((natI l).getD j 0)) = (natI (betweenN n rows x y)).map PyData.int := by
        rw [List.length_map, filter_map_range (fun z => decide ((x : Int) < z) && decide (z < (y : Int))) PyData.int 0 (natI l)]
        unfold betweenN
        rw [← ebl]
        unfold natI
        rw [List.filter_map, List.map_map]
        rw [List.map_map]
        rfl
      rw [ez2] at r2
      have := r2.ofInts
      subst this
      dsimp only [tNil]
      refine tupL_use (SqL.of hy2) fun p H3 s3 hp => k _ _ ((s1.trans s2).trans s3) ⟨hp, ?_⟩
      unfold natI betweenN
      rw [List.length_map]
      exact filter_len (filter_len (by rw [List.length_range]; omega))
theorem ok_between_of (T : Txt K mg ad fd) : FnOk P w K mg base (L2.CX P w) 7 (ad 46) (fd 46) ["book", "tie"] (spX K (ad 21) (fun n rows _ => BookIn n rows) betweenX) := by
  refine T.F_between_of.okX sc_between_of (fun vs H Q E h => ?_) (fun cdv A outer s H vs Q E hr h => ?_)
  · obtain ⟨v, u, d, n, rows, rfl, _⟩ := h
    rfl
  · obtain ⟨v, u, d, n, rows, rfl, h, hu, ⟨hin, h0, h1⟩, k⟩ := h
    refine ⟨_, (pss_cons (ps_expr (pe_call (ok_need T) (hr.mono (by decide)) rfl T.m_need T.F_need.kp (b_need T) .nil (passes_call (takes_of rfl rfl rfl rfl) fun _ _ _ _ h => h) (pa_cons (pe_call (ok_is_tie T) (hr.mono (by decide)) rfl T.m_is_tie T.F_is_tie.kp (b_is_tie T) .nil pass0 (pa_cons (pv 0) (pa_cons (pv 1) pa_nil))) (pa_cons pe_str pa_nil))))
  (pss_one (ps_ret (pe_call (ok_between_in T) (hr.mono (by decide)) rfl T.m_between_in T.F_between_in.kp (b_between_in T) .nil pass0 (pa_cons (pe_call (ok_near_masks T) (hr.mono (by decide)) rfl T.m_near_masks T.F_near_masks.kp (b_near_masks T) .nil pass0 (pa_cons (pv 0) pa_nil)) (pa_cons (pe_ix (ixT K) (pv 1) pe_int (fun _ _ => rfl)) (pa_cons (pe_ix (ixT K) (pv 1) pe_int (fun _ _ => rfl)) pa_nil))))))), ?_⟩
    refine ⟨_, rfl, _, rfl, v, u, d, n, rows, rfl, h, hu, fun H1 s1 => ⟨_, _, rfl, (fun hc => ?_), fun hc => ?_⟩⟩
    rotate_left
    · have ek : betweenX n rows d = .error ("tie", -1) := by
        unfold betweenX
        rw [if_neg (by rw [hc]; exact Bool.false_ne_true)]
      rw [ek] at k
      exact k.same s1
    have ek : betweenX n rows d = .ok (dTup (natI (betweenN n rows ((dInts d).getD 0 0) ((dInts d).getD 1 0)))) := by
      unfold betweenX
      rw [if_pos hc]
    rw [ek] at k
    have hc2 := hc
    unfold isTie isLot at hc2
    simp only [Bool.and_eq_true, decide_eq_true_eq] at hc2
    obtain ⟨⟨⟨hb, _⟩, hl⟩, _⟩ := hc2
    have ed := areBelow_tup hb
    have hmem : ∀ z ∈ dInts d, 0 ≤ z ∧ z < n := by
      intro z hz
      rw [ed] at hb
      unfold areBelow dTup at hb
      have := List.all_eq_true.mp hb (.int z) (List.mem_map.mpr ⟨z, hz, rfl⟩)
      simpa [isBelow] using this
    rw [ed] at hu
    obtain ⟨a, rfl, ta⟩ := hu.tupI
    generalize hns : dInts d = ns at *
    match ns, hl with
    | [x, y], _ =>
      obtain ⟨hx0, hx1⟩ := hmem x (by simp)
      obtain ⟨hy0, hy1⟩ := hmem y (by simp)
      obtain ⟨x, rfl⟩ : ∃ z : Nat, x = (z : Int) := ⟨x.toNat, by omega⟩
      obtain ⟨y, rfl⟩ : ∃ z : Nat, y = (z : Int) := ⟨y.toNat, by omega⟩
      refine ⟨_, rfl, v, n, rows, rfl, h.same s1, hin, h0, h1, fun p ms H2 s2 hp hm nk => ?_⟩
      have t2 := ta.same (s1.trans s2)
      exact ⟨_, rfl, _, _, _, _, rfl, rfl, t2.1, rfl, _, rfl, _, _, _, _, rfl, rfl, t2.1, rfl, p, x, y, n, rows, ms, rfl, hm, nk, ⟨hin, h0, h1⟩, hx1, hy1, fun q H3 s3 tq => k _ _ ((s1.trans s2).trans s3) tq.rp⟩
end
end LK
namespace LK
open PySem PySem.Spec PyProof.Rows L2
/-- the ties, ascending -/
def tiesAt (n : Int) (rows : List (List Int)) (x : Nat) : List (List Int) := ((nearN n rows x).filter fun (y : Nat) => decide ((x : Int) < (y : Int))).map fun (y : Nat) => [(x : Int), (y : Int)]
def tiesL (n : Int) (rows : List (List Int)) : List (List Int) := (List.range n.toNat).flatMap (tiesAt n rows)
theorem range_gt : ∀ (n x : Nat), ((List.range n).filter fun (y : Nat) => decide ((x : Int) < (y : Int))).length ≤ n - 1 - x
  | 0, x => by simp
  | n + 1, x => by
    rw [List.range_succ, List.filter_append, List.length_append]
    have ih := range_gt n x
    by_cases c : (x : Int) < (n : Int)
    · have e : ([n].filter fun (y : Nat) => decide ((x : Int) < (y : Int))).length ≤ 1 := List.length_filter_le _ _
      omega
    · have e : ([n].filter fun (y : Nat) => decide ((x : Int) < (y : Int))) = [] := by simp; omega
      rw [e]
      have e2 : ((List.range n).filter fun (y : Nat) => decide ((x : Int) < (y : Int))) = [] := by
        rw [List.filter_eq_nil_iff]
        intro y hy
        have := List.mem_range.mp hy
        simp
        omega
      rw [e2]
      simp
theorem tiesAt_len (n : Int) (rows : List (List Int)) (x : Nat) : (tiesAt n rows x).length ≤ n.toNat - 1 - x := by
  unfold tiesAt nearN
  rw [List.length_map, List.filter_filter]
  have e : ((List.range n.toNat).filter fun (a : Nat) => decide ((x : Int) < (a : Int)) && decide ((x : Int) ≠ (a : Int) ∧ tiedB rows x a = true)).length ≤ ((List.range n.toNat).filter fun (y : Nat) => decide ((x : Int) < (y : Int))).length := by
    rw [← List.countP_eq_length_filter, ← List.countP_eq_length_filter]
    refine List.countP_mono_left fun y _ h => ?_
    simp only [Bool.and_eq_true] at h
    exact h.1
  exact Nat.le_trans e (range_gt _ _)
theorem sum_le {f g : Nat → Nat} : ∀ l : List Nat, (∀ x ∈ l, f x ≤ g x) → (l.map f).sum ≤ (l.map g).sum
  | [], _ => Nat.le_refl _
  | a :: l, h => by
    rw [List.map_cons, List.map_cons, List.sum_cons, List.sum_cons]
    exact Nat.add_le_add (h a (by simp)) (sum_le l fun x hx => h x (by simp [hx]))
theorem tri45 : ∀ n : Fin 46, ((List.range n.val).map fun x => n.val - 1 - x).sum ≤ 1000 := by decide +kernel
theorem tiesL_len {n : Int} (rows : List (List Int)) (h : n ≤ 45) : (tiesL n rows).length ≤ 1000 := by
  unfold tiesL
  rw [List.length_flatMap]
  have h1 := sum_le (f := fun x => (tiesAt n rows x).length) (g := fun x => n.toNat - 1 - x) (List.range n.toNat) fun x _ => tiesAt_len n rows x
  have h2 := tri45 ⟨n.toNat, by omega⟩
  exact Nat.le_trans h1 h2
def spTies (K : PySem.W.Frag) : Sp := fun vs H Q _ => ∃ v n rows, vs = [v] ∧ Rp K H v (bookD n rows) ∧ RowsIn n rows ∧ 0 ≤ n ∧ n ≤ 45 ∧ ∀ u H', Same H H' → Rp K H' u (.tuple ((tiesL n rows).map dTup)) → Q u H'
theorem seqT_upd {K : PySem.W.Frag} {H : Hp} {D a : Addr} {zs xs : List V} {o : HO} (hD : H D = some (.lst zs)) (s : SqT K H a xs) : SqT K (upd H D o) a xs := by
  rcases s with (s | ⟨u, s⟩) | s
  · exact .inl (.inl (by rw [upd_ne (ne_of s hD (by intro z; cases z))]; exact s))
  · exact .inl (.inr ⟨u, by rw [upd_ne (ne_of s hD (by intro z; cases z))]; exact s⟩)
  · exact .inr s
section
variable {P : Program} {w : World} {K : PySem.W.Frag} {mg : Str → Option Value} {base : Heap} {ad : Nat → Addr} {fd : Nat → FuncData}
theorem ok_ties_of (T : Txt K mg ad fd) : FnOk P w K mg base CX0 3 (ad 42) (fd 42) ["book"] (spTies K) := by
  refine T.F_ties_of.ok sc_ties_of (fun vs H Q E h => ?_) (fun cdv A outer s H vs Q E hr h => ?_)
  · obtain ⟨v, n, rows, rfl, _⟩ := h
    rfl
  · obtain ⟨v, n, rows, rfl, h, hin, h0, h1, k⟩ := h
    obtain ⟨b, L, xs, rfl, hb, hL, hz, hr2⟩ := rp_book h
    refine ⟨_, (pss_cons (ps_set (i := 1) sc_ties_of.nd rfl (Or.inr rfl) (pe_call (ok_near_masks T) (hr.mono (by decide)) rfl T.m_near_masks T.F_near_masks.kp (b_near_masks T) .nil pass0 (pa_cons (pv 0) pa_nil)))
  (pss_one (ps_ret (pe_callTy (tupOf K) (by rfl) T.g_tuple (by decide +kernel) (pa_cons (pe_lc2 (own := [("low", 2), ("high", 3)]) (vs1 := [3]) (g := gName 2) (g1 := gName 3) rfl sc_ties_of.nd (pi_range1 rfl T.g_range (pa_cons (pe_ix (ixT K) (pv 0) pe_int (fun _ _ => rfl)) pa_nil)) (blkOk_by (N := ["book", "near", "low", "high"]) (sc := defScope s_ties_of) (by decide +kernel)) (by decide) (fun _ _ _ _ _ => (pg_name (i := 2) (x := "low") sc_ties_of.nd rfl (Or.inl rfl))) (fun _ _ _ _ _ => pts_nil) (fun _ _ _ _ _ => (piT K (pe_call (ok_things_of T) (hr.mono (by decide)) rfl T.m_things_of T.F_things_of.kp (b_things_of T) .nil pass0 (pa_cons (pe_ix (ixL K) (pv 1) (pv 2) (fun _ _ => rfl)) pa_nil)))) (fun _ _ _ _ _ => (pg_name (i := 3) (x := "high") sc_ties_of.nd rfl (Or.inl rfl))) (fun _ _ _ _ _ => (pts_one (pt_cmpR op_lt (pv 2) (pv 3) (nomark _)))) (fun _ _ _ _ _ => (pe_tup (pa_cons (pv 2) (pa_cons (pv 3) pa_nil))))) pa_nil))))), ?_⟩
    refine ⟨_, rfl, _, n, rows, rfl, h, hin, h0, by omega, fun N ms H1 s1 hN hm nk => ?_⟩
    refine ⟨_, rfl, _, _, _, _, rfl, rfl, seqT s1 hb, rfl, n, rfl, by omega, by omega, fun D hD => ?_⟩
    have ND : N ≠ D := ne_of_none hm hD
    let Pv : Nat → Hp → Prop := fun i H2 => ∃ ys, Fill H1 D H2 ys ∧ RpAll K H2 ys (((List.range i).flatMap (tiesAt n rows)).map dTup)
    have nol : ∀ l : List (List Int), noLs (l.map dTup) = true := noLs_rows
    refine ⟨fun i m H2 => m = n.toNat - i ∧ i ≤ n.toNat ∧ Pv i H2, ⟨n.toNat, by omega, Nat.zero_le _, [], Fill.start hD, .nil⟩, ?_⟩
    rintro i m H2 ⟨rfl, hi, ys, fl, r⟩
    by_cases hlt : i < n.toNat
    · refine .inr ⟨hlt, Pv (i + 1), fun H' p' => ⟨n.toNat - (i + 1), by omega, rfl, hlt, p'⟩, fun x H3 y => ?_⟩
      obtain ⟨rfl, rfl⟩ := y
      refine ⟨rfl, ?_⟩
      have hxl : i < ms.length := by rw [nk.1]; exact hlt
      obtain ⟨m1, hm1⟩ : ∃ m, ms[i]? = some m := ⟨ms[i], List.getElem?_eq_getElem hxl⟩
      obtain ⟨hlt1, hbl⟩ := near_bits hin nk hm1
      have hm2 : H3 N = some (.lst ((natI ms).map V.int)) := fl.1 _ _ hm
      refine ⟨_, rfl, _, rfl, N, _, _, _, rfl, rfl, SqL.of hm2, at_of (j := i) (by omega) (natI_get hm1), m1, n.toNat, rfl, hlt1, by omega, fun a H4 s4 ta => ?_⟩
      rw [hbl] at ta
      refine ⟨a, rfl, ⟨_, ta.1⟩, ?_⟩
      have lys : ys.length ≤ 1000 := by
        rw [r.length, List.length_map]
        refine Nat.le_trans ?_ (tiesL_len (n := n) rows h1)
        unfold tiesL
        have e : List.range n.toNat = List.range i ++ (List.range (n.toNat - i)).map (i + ·) := by
          have := List.range_add (n := i) (m := n.toNat - i)
          rw [← this]
          congr 1
          omega
        rw [e, List.flatMap_append, List.length_append]
        omega
      let Pw : Nat → Hp → Prop := fun j H5 => ∃ zs, Fill H1 D H5 zs ∧ SqT K H5 a ((natI (nearN n rows i)).map V.int) ∧ zs.length ≤ 1000 + j ∧
        RpAll K H5 zs ((((List.range i).flatMap (tiesAt n rows)) ++ ((((nearN n rows i).take j).filter fun (y : Nat) => decide ((i : Int) < (y : Int))).map fun (y : Nat) => [(i : Int), (y : Int)])).map dTup)
      have lnn : (nearN n rows i).length ≤ 1000 := by
        unfold nearN
        exact filter_len (by rw [List.length_range]; omega)
      refine ⟨fun j m H5 => m = (nearN n rows i).length - j ∧ j ≤ (nearN n rows i).length ∧ Pw j H5, ⟨_, rfl, Nat.zero_le _, ys, ⟨fl.1.trans s4, s4 _ _ fl.2⟩, ta.1, by omega, by simpa using r.same s4⟩, ?_⟩
      rintro j mm H5 ⟨rfl, hj, zs, fz, sa, lz, rz⟩
      by_cases hjl : j < (nearN n rows i).length
      · have hjv : ((natI (nearN n rows i)).map V.int)[j]? = some (.int ((nearN n rows i)[j] : Nat)) := natI_get (List.getElem?_eq_getElem hjl)
        refine .inr ⟨⟨_, _, sa, hjv⟩, Pw (j + 1), fun H' p' => ⟨(nearN n rows i).length - (j + 1), by omega, rfl, hjl, p'⟩, fun x H6 y => ?_⟩
        obtain ⟨e6, y⟩ := y
        subst e6
        have ex := y _ sa
        rw [hjv] at ex
        have ex := (Option.some.inj ex).symm
        subst ex
        refine ⟨rfl, _, rfl, _, rfl, _, _, rfl, rfl, _, rfl, ?_⟩
        have et : (nearN n rows i).take (j + 1) = (nearN n rows i).take j ++ [(nearN n rows i)[j]] := by
          rw [List.take_succ, List.getElem?_eq_getElem hjl]
          rfl
        show if decide (((0 : Int) + (i : Nat)) < (((nearN n rows i)[j] : Nat) : Int)) = true then _ else _
        have ei : (0 : Int) + (i : Nat) = (i : Int) := by omega
        rw [ei]
        by_cases c : (i : Int) < (((nearN n rows i)[j] : Nat) : Int)
        · rw [decide_eq_true c]
          refine iteT ⟨_, rfl, _, rfl, (by show 2 ≤ sizeLine; decide), fun p hp => ?_⟩
          have sp : Same H6 (upd H6 p (.tup [V.int (i : Int), V.int (((nearN n rows i)[j] : Nat) : Int)])) := same_upd hp
          refine ⟨zs, sp _ _ fz.2, Nat.lt_of_le_of_lt lz (by have : (3000 : Nat) < sizeLine := (by decide); omega), zs ++ [.ref p], fz.push hD sp, seqT_upd (sp _ _ fz.2) (seqT sp sa), by rw [List.length_append, List.length_singleton]; omega, ?_⟩
          rw [et, List.filter_append]
          have e1 : ([(nearN n rows i)[j]].filter fun (y : Nat) => decide ((i : Int) < (y : Int))) = [(nearN n rows i)[j]] := by simp; omega
          rw [e1, List.map_append (f := fun (y : Nat) => [(i : Int), (y : Int)]), ← List.append_assoc, List.map_append (f := dTup)]
          refine RpAll.upd (sp _ _ fz.2) ?_ ((rz.same sp).app (.one ?_))
          · have := nol ((((List.range i).flatMap (tiesAt n rows)) ++ ((((nearN n rows i).take j).filter fun (y : Nat) => decide ((i : Int) < (y : Int))).map fun (y : Nat) => [(i : Int), (y : Int)])) ++ [[(i : Int), (((nearN n rows i)[j] : Nat) : Int)]])
            rw [List.map_append] at this
            exact this
          · exact TupI.rp (ns := [(i : Int), (((nearN n rows i)[j] : Nat) : Int)]) ⟨SqT.of upd_same, by show 2 ≤ 1000; decide⟩
        · rw [decide_eq_false c]
          refine iteF ⟨zs, fz, sa, by omega, ?_⟩
          rw [et, List.filter_append]
          have e1 : ([(nearN n rows i)[j]].filter fun (y : Nat) => decide ((i : Int) < (y : Int))) = [] := by simp [c]; omega
          rw [e1, List.append_nil]
          exact rz
      · have hje : j = (nearN n rows i).length := by omega
        refine .inl ⟨⟨_, sa, by rw [List.length_map, natI_length]; omega⟩, zs, fz, ?_⟩
        rw [List.range_succ, List.flatMap_append]
        rw [hje, List.take_length] at rz
        simpa [tiesAt] using rz
    · have hie : i = n.toNat := by omega
      refine .inl ⟨by show n.toNat ≤ i; omega, ?_⟩
      subst hie
      dsimp only [tNil]
      refine tupL_use (SqL.of fl.2) fun p H4 s4 hp => k _ _ ((s1.trans fl.1).trans s4) ?_
      refine .tup hp ?_ (r.same s4)
      rw [r.length, List.length_map]
      exact tiesL_len rows h1
end
end LK
namespace LK
open PySem PySem.Spec PyProof.Rows L2
def pairsAt (m : Nat) (q : Nat → Nat → Bool) (k : Nat) : List (List Int) := ((List.range (m - (k + 1))).filter fun j => q k (k + 1 + j)).map fun j => [(k : Int), ((k + 1 + j : Nat) : Int)]
def pairsL (m : Nat) (q : Nat → Nat → Bool) : List (List Int) := (List.range m).flatMap (pairsAt m q)
/-- by labels in one list -/
def byNames (names : List Int) (rows : List (List Int)) (k n : Nat) : Bool := tiedB rows (names.getD k 0) (names.getD n 0)
theorem tied_held (rows : List (List Int)) (x y : Int) : decide (0 < ((rows.filter fun r => decide (x ∈ r)).filter fun r => decide (y ∈ r)).length) = tiedB rows x y := by
  unfold tiedB
  cases c : rows.any fun r => decide (x ∈ r) && decide (y ∈ r) with
  | true =>
    obtain ⟨r, hr, h⟩ := List.any_eq_true.mp c
    rw [Bool.and_eq_true] at h
    refine decide_eq_true (List.length_pos_of_mem (List.mem_filter.mpr ⟨List.mem_filter.mpr ⟨hr, h.1⟩, h.2⟩))
  | false =>
    refine decide_eq_false fun h => ?_
    obtain ⟨r, hr⟩ := List.exists_mem_of_length_pos h
    obtain ⟨h1, h2⟩ := List.mem_filter.mp hr
    obtain ⟨h3, h4⟩ := List.mem_filter.mp h1
    have : (rows.any fun r => decide (x ∈ r) && decide (y ∈ r)) = true := List.any_eq_true.mpr ⟨r, h3, by rw [h4, h2]; rfl⟩
    rw [this] at c
    cases c
theorem pick_rows {α : Type} (p : α → Bool) (z : α) (l : List α) : (((List.range l.length).filter fun j => p (l.getD j z)).map fun j => l.getD j z) = l.filter p := by
  have e := filter_map_range p (fun y => y) z l
  rw [List.map_id'] at e
  exact e
theorem pairsAt_len (m : Nat) (q : Nat → Nat → Bool) (k : Nat) : (pairsAt m q k).length ≤ m - 1 - k := by
  unfold pairsAt
  rw [List.length_map]
  refine Nat.le_trans (List.length_filter_le _ _) ?_
  rw [List.length_range]
  omega
theorem pairs_part (m : Nat) (q : Nat → Nat → Bool) (h : m ≤ 45) : ∀ i, ((List.range i).flatMap (pairsAt m q)).length ≤ i * 45
  | 0 => by simp
  | i + 1 => by
    have ih := pairs_part m q h i
    have h2 := pairsAt_len m q i
    rw [List.range_succ, List.flatMap_append, List.length_append]
    have : ([i].flatMap (pairsAt m q)).length = (pairsAt m q i).length := by simp
    omega
theorem pairsL_len {m : Nat} (q : Nat → Nat → Bool) (h : m ≤ 45) : (pairsL m q).length ≤ 1000 := by
  unfold pairsL
  rw [List.length_flatMap]
  exact Nat.le_trans (sum_le _ fun x _ => pairsAt_len m q x) (tri45 ⟨m, by omega⟩)
section
variable {P : Program} {w : World} {K : PySem.W.Frag} {mg : Str → Option Value} {base : Heap} {ad : Nat → Addr} {fd : Nat → FuncData}
theorem ok__law_pairs (T : Txt K mg ad fd) : FnOk P w K mg base CX0 1 (ad 57) (fd 57) ["_law_names", "_law_lists"]
    (fun vs H Q _ => ∃ v u names rows, vs = [v, u] ∧ Rp K H v (dLst names) ∧ Rp K H u (.list (rows.map dLst)) ∧ names.length ≤ 45 ∧ ∀ z H', Same H H' → H z = none → Rp K H' (.ref z) (.list ((pairsL names.length (byNames names rows)).map dTup)) → Q (.ref z) H') := by
  refine T.F__law_pairs.ok sc__law_pairs (fun vs H Q E h => ?_) (fun cdv A outer s H vs Q E hr h => ?_)
  · obtain ⟨v, u, names, rows, rfl, _⟩ := h
    rfl
  · obtain ⟨v, u, names, rows, rfl, hv, hu, hm, k⟩ := h
    obtain ⟨a, rfl, ta⟩ := hv.lstI
    obtain ⟨L, xs, rfl, hL, hz, hr2⟩ := hu.lstA
    have lx : xs.length = rows.length := by rw [hr2.length, List.length_map]
    refine ⟨_, (pss_cons (ps_set (i := 2) sc__law_pairs.nd rfl (Or.inl rfl) (pe_lst pa_nil))
  (pss_cons (ps_for PassesOwn.never rfl (pi_range1 rfl T.g_range (pa_cons (pe_callB (lenS K) (by rfl) T.g_len (by decide +kernel) (pa_cons (pv 0) pa_nil)) pa_nil)) (pg_name (i := 3) (x := "_law_k") sc__law_pairs.nd rfl (Or.inr rfl))
  (pss_cons (ps_setLc (i := 4) (own := [("_law_row", 6)]) (g := gName 6) rfl sc__law_pairs.nd rfl rfl (sw_true rfl rfl rfl (by decide +kernel)) (piL K (pv 1)) (blkOk_by (N := ["_law_names", "_law_lists", "_law_found", "_law_k", "_law_held", "_law_n", "_law_row"]) (sc := defScope s__law_pairs) (by decide +kernel)) (fun _ _ _ _ _ => (pg_name (i := 6) (x := "_law_row") sc__law_pairs.nd rfl (Or.inl rfl))) (fun _ _ _ _ _ => (pts_one (pt_cmpR (inS K) (pe_ix (ixL K) (pv 0) (pv 3) (fun _ _ => rfl)) (pv 6) (by with_unfolding_all rfl)))) (fun _ _ _ _ _ => (pv 6)))
  (pss_one (ps_for PassesOwn.never rfl (pi_range2 rfl T.g_range (pa_cons (pe_op op_add (pv 3) pe_int) (pa_cons (pe_callB (lenS K) (by rfl) T.g_len (by decide +kernel) (pa_cons (pv 0) pa_nil)) pa_nil))) (pg_name (i := 5) (x := "_law_n") sc__law_pairs.nd rfl (Or.inr rfl))
  (pss_one (ps_if (pt_cmpR op_gt (pe_callB (lenS K) (by rfl) T.g_len (by decide +kernel) (pa_cons (pe_lc (own := [("_law_row", 6)]) (g := gName 6) rfl sc__law_pairs.nd (piL K (pv 4)) (blkOk_by (N := ["_law_names", "_law_lists", "_law_found", "_law_k", "_law_held", "_law_n", "_law_row"]) (sc := defScope s__law_pairs) (by decide +kernel)) (fun _ _ _ _ _ => (pg_name (i := 6) (x := "_law_row") sc__law_pairs.nd rfl (Or.inl rfl))) (fun _ _ _ _ _ => (pts_one (pt_cmpR (inS K) (pe_ix (ixL K) (pv 0) (pv 5) (fun _ _ => rfl)) (pv 6) (by with_unfolding_all rfl)))) (fun _ _ _ _ _ => (pv 6))) pa_nil)) pe_int (nomark _)) (pss_one (ps_expr (pe_bmK K PySem.F.plainAttrs_list PySem.F.slot_list_append PySem.F.type_list_append mt_append (pv 2) (pa_cons (pe_tup (pa_cons (pv 3) (pa_cons (pv 5) pa_nil))) pa_nil))))
  pss_nil))))))
  (pss_one (ps_ret (pv 2))))), ?_⟩
    refine ⟨(by show 0 ≤ sizeLine; decide), fun F hF => ⟨_, rfl, a, _, rfl, .inl (ta.same (same_upd hF)).1, _, rfl, ?_, ?_, for_range (n := (names.map V.int).length) (fun i σ H1 => ∃ (ys : List V) (v2 v4 v5 : Option V), σ = [some (.ref a), some (.ref L), some (.ref F), v2, v4, v5, none] ∧ FillH K H F H1 ys (((List.range i).flatMap (pairsAt names.length (byNames names rows))).map dTup))
      ⟨[], none, none, none, rfl, fillH_start hF⟩ (fun i σ H1 hi ⟨ys, v2, v4, v5, e1, fl⟩ => ?_) (fun σ H1 ⟨ys, v2, v4, v5, e1, fl⟩ => ?_)⟩⟩
    · omega
    · rw [List.length_map]
      omega
    · subst e1
      have hi2 : i < names.length := by simpa using hi
      have sF : Same H H1 := fl.1.1
      have g1 : (names.map V.int)[i]? = some (.int (names.getD i 0)) := mapD hi2
      refine ⟨_, rfl, L, rfl, ⟨_, sF.seq hL⟩, fun Dh hDh => ?_⟩
      refine lcLV (K := K) (xs := xs) (fun j => decide (names.getD i 0 ∈ rows.getD j [])) (fun j => xs.getD j .non) hDh (sF.seq hL) hz (fun j v H2 hj s2 Q1 Q2 k1 k2 => ?_) (fun H2 s2 hy => ?_)
      · obtain ⟨ns, b, hn, rfl, t⟩ := hr2.rowL hj
        have t := t.same (sF.trans s2)
        have en : rows.getD j [] = ns := by rw [List.getD_eq_getElem?_getD, hn]; rfl
        have ex : xs.getD j .non = .ref b := by rw [List.getD_eq_getElem?_getD, hj]; rfl
        rw [en] at k1 k2
        rw [ex] at k1
        refine ⟨rfl, _, rfl, _, rfl, a, _, _, _, rfl, rfl, (ta.same (sF.trans s2)).1, at_of (j := i) (by omega) g1, _, rfl, b, _, rfl, .inl t.1, rfl, flat_ints ns, _, rfl, ?_⟩
        show if inV (.int (names.getD i 0)) (ns.map V.int) = true then _ else _
        rw [inV_int]
        cases c : decide (names.getD i 0 ∈ ns) with
        | false => exact iteF (k2 c _ (Same.refl _))
        | true => exact iteT ⟨_, rfl, k1 c _ (Same.refl _)⟩
      · have hall : ∀ j ∈ (List.range xs.length).filter (fun j => decide (names.getD i 0 ∈ rows.getD j [])), j < xs.length := fun j hj => List.mem_range.mp (List.mem_filter.mp hj).1
        have hR := hr2.pick (fun _ => true) _ hall
        have eR : (((List.range xs.length).filter (fun j => decide (names.getD i 0 ∈ rows.getD j []))).map fun j => (rows.map dLst).getD j .none) = (rows.filter fun r => decide (names.getD i 0 ∈ r)).map dLst := by
          rw [← pick_rows (fun r => decide (names.getD i 0 ∈ r)) [] rows, ← lx, List.map_map]
          refine List.map_congr_left fun j hj => ?_
          have hj2 : j < rows.length := by rw [← lx]; exact hall j hj
          show (rows.map dLst).getD j .none = dLst (rows.getD j [])
          rw [List.getD_eq_getElem?_getD, List.getD_eq_getElem?_getD, List.getElem?_map, List.getElem?_eq_getElem hj2]
          rfl
        rw [eR] at hR
        have hhl : (((List.range xs.length).filter (fun j => decide (names.getD i 0 ∈ rows.getD j []))).map fun j => xs.getD j .non).length ≤ 1000 := by
          rw [List.length_map]
          exact Nat.le_trans (List.length_filter_le _ _) (by rw [List.length_range]; exact hz)
        generalize (((List.range xs.length).filter (fun j => decide (names.getD i 0 ∈ rows.getD j []))).map fun j => xs.getD j .non) = hv at hy hR hhl
        generalize hhr : (rows.filter fun r => decide (names.getD i 0 ∈ r)) = hrows at hR
        have lh : hv.length = hrows.length := by rw [hR.length, List.length_map]
        have fl2 := fillH_same fl s2
        have hne : Dh ≠ F := (ne_of_none fl.1.2 hDh).symm
        have ta2 := ta.same (sF.trans s2)
        refine ⟨_, rfl, _, _, rfl, rfl, _, rfl, a, _, rfl, .inl ta2.1, _, _, rfl, ?_, ?_⟩
        · rw [List.length_map]
          exact ⟨by omega, by omega, by omega, by omega⟩
        have en : ((((names.map V.int).length : Nat) : Int) - ((0 : Int) + (i : Nat) + 1)).toNat = names.length - (i + 1) := by rw [List.length_map]; omega
        rw [en]
        let pt : Nat → List PyData := fun j => (((List.range i).flatMap (pairsAt names.length (byNames names rows))) ++ (((List.range j).filter fun z => byNames names rows i (i + 1 + z)).map fun z => [(i : Int), ((i + 1 + z : Nat) : Int)])).map dTup
        refine for_range (fun j σ H3 => ∃ (ys : List V) (v5 : Option V), σ = [some (.ref a), some (.ref L), some (.ref F), some (.int (0 + (i : Nat))), some (.ref Dh), v5, none] ∧ FillH K H F H3 ys (pt j) ∧ H3 Dh = some (.lst hv))
          ⟨ys, _, rfl, by show FillH K H F H2 ys (List.map dTup (_ ++ [])); rw [List.append_nil]; exact fl2, hy⟩ (fun j σ H3 hj ⟨ys3, v53, e3, fl3, hd3⟩ => ?_) (fun σ H3 ⟨ys3, v53, e3, fl3, hd3⟩ => ?_)
        · subst e3
          have sF3 : Same H H3 := fl3.1.1
          have hjn : i + 1 + j < names.length := by omega
          have g2 : (names.map V.int)[i + 1 + j]? = some (.int (names.getD (i + 1 + j) 0)) := mapD hjn
          refine ⟨_, rfl, Dh, rfl, ⟨_, SqL.of hd3⟩, fun D4 hD4 => ?_⟩
          refine lcLV (K := K) (xs := hv) (fun z => decide (names.getD (i + 1 + j) 0 ∈ hrows.getD z [])) (fun z => hv.getD z .non) hD4 (SqL.of hd3) hhl (fun z v H4 hz4 s4 Q1 Q2 k1 k2 => ?_) (fun H4 s4 hy4 => ?_)
          · obtain ⟨ns, b, hn, rfl, t⟩ := hR.rowL hz4
            have t := t.same (sF3.trans s4)
            have en2 : hrows.getD z [] = ns := by rw [List.getD_eq_getElem?_getD, hn]; rfl
            have ex : hv.getD z .non = .ref b := by rw [List.getD_eq_getElem?_getD, hz4]; rfl
            rw [en2] at k1 k2
            rw [ex] at k1
            refine ⟨rfl, _, rfl, _, rfl, a, _, _, _, rfl, rfl, (ta.same (sF3.trans s4)).1, at_of (j := i + 1 + j) (by omega) g2, _, rfl, b, _, rfl, .inl t.1, rfl, flat_ints ns, _, rfl, ?_⟩
            show if inV (.int (names.getD (i + 1 + j) 0)) (ns.map V.int) = true then _ else _
            rw [inV_int]
            cases c : decide (names.getD (i + 1 + j) 0 ∈ ns) with
            | false => exact iteF (k2 c _ (Same.refl _))
            | true => exact iteT ⟨_, rfl, k1 c _ (Same.refl _)⟩
          · refine ⟨D4, _, rfl, .inl (SqL.of hy4), _, _, rfl, rfl, _, rfl, ?_⟩
            have el : (((List.range hv.length).filter fun z => decide (names.getD (i + 1 + j) 0 ∈ hrows.getD z [])).map fun z => hv.getD z .non).length = (hrows.filter fun r => decide (names.getD (i + 1 + j) 0 ∈ r)).length := by
              rw [List.length_map, lh, ← pick_rows (fun r => decide (names.getD (i + 1 + j) 0 ∈ r)) [] hrows, List.length_map]
            have ec : decide ((0 : Int) < (((((List.range hv.length).filter fun z => decide (names.getD (i + 1 + j) 0 ∈ hrows.getD z [])).map fun z => hv.getD z .non).length : Nat) : Int)) = byNames names rows i (i + 1 + j) := by
              rw [el]
              unfold byNames
              rw [← tied_held, hhr]
              congr 1
              apply propext
              omega
            show if decide ((0 : Int) < (((((List.range hv.length).filter fun z => decide (names.getD (i + 1 + j) 0 ∈ hrows.getD z [])).map fun z => hv.getD z .non).length : Nat) : Int)) = true then _ else _
            rw [ec]
            have fl4 := fillH_same fl3 s4
            have hd4 := s4 _ _ hd3
            cases c : byNames names rows i (i + 1 + j) with
            | false =>
              refine iteF ⟨ys3, _, rfl, ?_, hd4⟩
              have : pt (j + 1) = pt j := by
                show List.map dTup (_ ++ _) = List.map dTup (_ ++ _)
                rw [List.range_succ, List.filter_append]
                simp [c]
              rw [this]
              exact fl4
            | true =>
              have lys : ys3.length < sizeLine := by
                have h1 := fl3.2.length
                have h2 := pairs_part names.length (byNames names rows) hm i
                have h3 : (pt j).length ≤ i * 45 + j := by
                  show (List.map dTup (_ ++ _)).length ≤ _
                  rw [List.length_map, List.length_append, List.length_map]
                  have := List.length_filter_le (fun z => byNames names rows i (i + 1 + z)) (List.range j)
                  rw [List.length_range] at this
                  omega
                have h4 : (4000 : Nat) ≤ sizeLine := by decide
                have h5 : i * 45 ≤ 45 * 45 := Nat.mul_le_mul_right 45 (by omega)
                omega
              refine iteT ⟨_, rfl, .inl ⟨rfl, _, SqL.of fl4.1.2⟩, _, rfl, _, rfl, (by show 2 ≤ sizeLine; decide), fun p hp => ?_⟩
              have hpF : p ≠ F := fun q => by rw [q, fl4.1.2] at hp; cases hp
              have sp := same_upd (o := .tup [.int (0 + (i : Nat)), .int (0 + (i : Nat) + 1 + (j : Nat))]) hp
              refine ⟨F, ys3, _, rfl, rfl, sp _ _ fl4.1.2, lys, ?_⟩
              refine ⟨ys3 ++ [.ref p], _, rfl, ?_, ?_⟩
              · have e0 : pt (j + 1) = pt j ++ [dTup [(i : Int), ((i + 1 + j : Nat) : Int)]] := by
                  show List.map dTup (_ ++ _) = List.map dTup (_ ++ _) ++ _
                  rw [List.range_succ, List.filter_append]
                  simp [c]
                rw [e0]
                refine fillH_push hF fl4 sp ?_
                have ev : [V.int (0 + (i : Nat)), V.int (0 + (i : Nat) + 1 + (j : Nat))] = [(i : Int), ((i + 1 + j : Nat) : Int)].map V.int := by
                  have e1 : (0 : Int) + (i : Nat) = (i : Int) := by omega
                  have e2 : (0 : Int) + (i : Nat) + 1 + (j : Nat) = ((i + 1 + j : Nat) : Int) := by omega
                  rw [e2, e1]
                  rfl
                refine TupI.rp ⟨SqT.of ?_, by show 2 ≤ 1000; decide⟩
                rw [hide_ne hpF, upd_same, ev]
              · rw [upd_ne hne]
                exact sp _ _ hd4
        · subst e3
          refine ⟨ys3, _, _, _, rfl, ?_⟩
          have : pt (names.length - (i + 1)) = ((List.range (i + 1)).flatMap (pairsAt names.length (byNames names rows))).map dTup := by
            show List.map dTup (_ ++ _) = _
            rw [List.range_succ, List.flatMap_append]
            simp [pairsAt]
          rw [← this]
          exact fl3
    · subst e1
      rw [List.length_map] at fl
      refine ⟨_, rfl, k F _ fl.1.1 hF ?_⟩
      refine .lst (SqL.of fl.1.2) ?_ (fl.2.same (hide_same _ _))
      rw [fl.2.length, List.length_map]
      exact pairsL_len _ hm
end
end LK
/-! f"{n:b}" and its count of "1" -/
namespace LK
open PySem PySem.Spec PyProof.Rows L2
open Builtin Float
def binL (m : Nat) : List Nat := (Nat.toDigits 2 m).map Char.toNat
def binT (m : Nat) : Str := ⟨(binL m).toArray⟩
def specB : FormatSpec := { align := 62, type := some 98 }
theorem specB_ok : parseFormatSpec [98] "int" 62 = .ok specB := rfl
theorem binL_ne (m : Nat) : (binL m).isEmpty = false := by
  have := tDigits_len_ge 2 m
  unfold binL
  cases h : Nat.toDigits 2 m with
  | nil => rw [h] at this; simp at this
  | cons _ _ => rfl
section
variable {prog : Program} {w : World} {A : Around} {E : Value → Shared → Prop} {s : Shared}
theorem field_b' {m : Nat} {t : Tok} {f : FormatSpec} (hp : parseFormatSpec [98] "int" 62 = .ok f) (hty : f.type = some 98) (hpr : f.precision = none) (hz : f.noNeg0 = false) (hal : f.alt = false) (hw : f.width = none) (hgr : f.grouping = none) (hsg : f.sign = none) (hfi : f.fill = 32) (hgn : f.align = 62) {Q : Value → Shared → Prop} (hl : (binL m).length ≤ sizeLine)
    (h : ∀ t' tk, Q (.str (binT m) t') { s with toks := tk }) : wpAny (model prog w) A (formatField (.int (m : Int) t) (Str.ofString "b")) Q E s := by
  show wpAny _ _ (holding [.int m t] (pyFormat (.int m t) (Str.ofString "b"))) Q E s
  refine wpAny_holding ?_
  unfold pyFormat
  refine wpAny_bind (wpAny_mkStr ?_ (by decide))
  refine wpAny_bind (m := callSpecial? (.int m t) (Str.ofString "__format__") [.str (Str.ofString "b") s.toks]) (wpAny_callSpecial?_slot (name := Str.ofString "__format__") (typeIs_int _ m t) F.slot_int_format ?_)
  refine wpAny_call (codeAny_call_builtin F.slot_int_format.plain F.entry_int_format (F.slot_int_format.check _ _ _ _ _ _ _ _ (typeIs_int _ m t) (F.args_int_format_2 _ _) ?_))
  unfold Builtin.«int.__format__»
  have hne : ((Str.ofString "b").length == 0) = false := by decide +kernel
  have hasc : (((Str.ofString "b").cps.toList.drop 1).any (· ≥ 128) || ((Str.ofString "b").cps.getD 0 0 ≥ 128 && !([60, 62, 61, 94] : List Nat).contains ((Str.ofString "b").cps.getD 1 0))) = false := by decide +kernel
  have hcp : (Str.ofString "b").cps.toList = [98] := by decide +kernel
  simp only [selfAndOne, noKeywords, Int.intOfSelf, asInt?, asStr?, List.isEmpty_nil, if_true, pure_bind, bind_pure, bind_assoc, hne, hasc, Bool.false_eq_true, if_false,
    show (Value.str (Str.ofString "b") s.toks == Value.none) = false from rfl]
  refine wpAny_bind (wpAny_typeNameOf (T := "str") (typeIs_str _ _ _) (by decide) fun _ => ?_)
  first | refine wpAny_bind (wpAny_typeNameOfCut_int ?_) | refine wpAny_bind (wpAny_typeNameOf_int ?_)
  rw [hcp, hp]
  simp only [hty, Option.getD_some]
  rw [if_pos (by decide)]
  show wpAny _ _ (if _ then _ else _) _ _ _
  rw [if_neg (by simp [hpr])]
  show wpAny _ _ (if _ then _ else _) _ _ _
  rw [if_neg (by simp [hz])]
  show wpAny _ _ (if _ then _ else _) _ _ _
  rw [if_neg (by decide)]
  show wpAny _ _ (if _ then _ else _) _ _ _
  rw [if_neg (by decide)]
  show wpAny _ _ (if f.width.getD 0 > 100000 then _ else _) _ _ _
  rw [if_neg (by rw [hw]; decide)]
  show wpAny _ _ (retStr _) _ _ _
  unfold retStr
  have hneg : decide ((m : Int) < 0) = false := decide_eq_false (by omega)
  have h5 : ((2 : Nat) == 10) = false := by decide
  have hd : ((Nat.toDigits 2 (m : Int).natAbs).map fun c => (if ((98 : Nat) == 88) = true then c.toUpper else c).toNat) = binL m := rfl
  clear hp
  obtain ⟨fill, align, sign, noNeg0, alt, width, grouping, precision, type⟩ := f
  dsimp only at hty hpr hz hal hw hgr hsg hfi hgn
  subst hty hpr hz hal hw hgr hsg hfi hgn
  refine wpAny_bind (wpAny_mkStr (wpAny_pure ?_) ?hs2)
  case hs2 =>
    rw [hneg, hd, h5]
    conv => lhs; arg 1; whnf
    simp [binL_ne, Str.length]
    exact hl
  dsimp only
  refine wpAny_bind (wpAny_isInstance (typeIs_str _ _ _) isSubtype_str_str (wpAny_pure ?_))
  rw [hneg, hd, h5]
  conv => arg 1; arg 1; whnf
  have q := h (s.toks + 1) (s.toks + 1 + 1)
  simp [binL_ne]
  exact q
theorem field_b {m : Nat} {t : Tok} {Q : Value → Shared → Prop} (hl : (binL m).length ≤ sizeLine)
    (h : ∀ t' tk, Q (.str (binT m) t') { s with toks := tk }) : wpAny (model prog w) A (formatField (.int (m : Int) t) (Str.ofString "b")) Q E s :=
  field_b' specB_ok rfl rfl rfl rfl rfl rfl rfl rfl rfl hl h
end
end LK
namespace LK
open PySem PySem.Spec PyProof.Rows L2
theorem bitL_succ (B n : Nat) : (bitL (B + 1) n).length = n % 2 + (bitL B (n / 2)).length := by
  unfold bitL
  rw [List.range_succ_eq_map, List.filter_cons, List.filter_map, Nat.testBit_zero]
  have e : ((fun i => n.testBit i) ∘ Nat.succ) = fun i => (n / 2).testBit i := by
    funext i
    exact Nat.testBit_succ ..
  rw [e]
  rcases Nat.mod_two_eq_zero_or_one n with h | h
  · rw [h]
    simp
  · rw [h]
    simp
    omega
def c1 (l : List Char) : Nat := (l.filter fun c => c.toNat == 49).length
theorem c1_cons (c : Char) (l : List Char) : c1 (c :: l) = (if c.toNat == 49 then 1 else 0) + c1 l := by
  unfold c1
  rw [List.filter_cons]
  split
  · rw [List.length_cons]; omega
  · omega
theorem core_count : ∀ (fuel B n : Nat) (ds : List Char), n < fuel → n < 2 ^ B → c1 (Nat.toDigitsCore 2 fuel n ds) = (bitL B n).length + c1 ds
  | 0, _, n, _, h, _ => absurd h (Nat.not_lt_zero _)
  | fuel + 1, 0, n, ds, hf, h => by
    have : n = 0 := by
      rw [Nat.pow_zero] at h
      omega
    subst this
    unfold Nat.toDigitsCore
    show c1 (Nat.digitChar 0 :: ds) = _
    rw [c1_cons]
    show 0 + c1 ds = 0 + c1 ds
    rfl
  | fuel + 1, B + 1, n, ds, hf, h => by
    have h2 : n / 2 < 2 ^ B := by
      rw [Nat.pow_succ] at h
      omega
    have hc : c1 (Nat.digitChar (n % 2) :: ds) = n % 2 + c1 ds := by
      rw [c1_cons]
      rcases Nat.mod_two_eq_zero_or_one n with h | h
      · rw [h]; rfl
      · rw [h]; rfl
    unfold Nat.toDigitsCore
    rw [bitL_succ]
    by_cases h0 : n / 2 = 0
    · simp only [h0, if_true]
      rw [bitL_zero, List.length_nil, hc]
      omega
    · simp only [h0, if_false]
      rw [core_count fuel B (n / 2) _ (by omega) h2, hc]
      omega
theorem bin_count {B m : Nat} (h : m < 2 ^ B) : c1 (Nat.toDigits 2 m) = (bitL B m).length := by
  unfold Nat.toDigits
  rw [core_count (m + 1) B m [] (by omega) h]
  rfl
theorem count_bin {B m : Nat} (h : m < 2 ^ B) : Txt.count (binT m) (Str.ofString "1") = ((bitL B m).length : Nat) := by
  have e : Str.ofString "1" = ⟨#[49]⟩ := by decide +kernel
  rw [e, count_cnt, ← bin_count h]
  show cnt 49 (binL m) = _
  unfold binL
  generalize Nat.toDigits 2 m = l
  induction l with
  | nil => rfl
  | cons c l ih =>
    rw [List.map_cons, cnt_cons, ih, c1_cons]
    by_cases e : c.toNat = 49
    · simp [e]
    · simp [e]
/-- f"{n:b}" of a number of at most 1000 bits -/
def tFmtB (te : TE) : TE := fun σ H Q => te σ H fun x H1 => ∃ m : Nat, x = .int m ∧ m < 2 ^ 1000 ∧ Q (.str (binT m)) H1
theorem binL_len {m : Nat} (h : m < 2 ^ 1000) : (binL m).length ≤ sizeLine := by
  unfold binL
  rw [List.length_map]
  have : (Nat.toDigits 2 m).length ≤ 1000 := PySem.toDigits_len_pow (by decide) (by decide) h
  have hs : (1000 : Nat) ≤ sizeLine := by decide
  omega
theorem pe_fmtB {X : Cx} {e : Expr} {te : TE} {pos p2 p3 : Pos} {k : Nat} (he : PE X e te) : PE X (.FormattedValue e (-1) (some (.JoinedStr [.Constant (.str "b") k p2] p3)) pos) (tFmtB te) := by
  refine ⟨fun pins s σ H Q I h => ?_⟩
  refine wpAny_FormattedValue_spec (thn (he.run pins s σ H _ I h) fun v s1 hv => ?_)
  obtain ⟨x, H1, I1, r1, m, rfl, hm, q⟩ := hv
  obtain ⟨t, rfl⟩ := r1
  have hs : PE X (.JoinedStr [.Constant (.str "b") k p2] p3) (tC (.str "b")) := pe_joined1 pe_str
  refine thn (hs.run pins s1 σ H1 (fun y H2 => y = .str "b" ∧ H2 = H1) I1 ⟨rfl, rfl⟩) fun u s2 ⟨y, H2, I2, r2, ey, eH⟩ => ?_
  subst ey eH
  obtain ⟨t2, rfl⟩ := r2
  refine ⟨_, t2, rfl, field_b (binL_len hm) fun t' tk => ⟨.str (binT m), H2, I2.tok _, ⟨_, rfl⟩, q⟩⟩
end LK
namespace LK
open PySem PySem.Spec PyProof.Rows L2
section
variable {P : Program} {w : World} {K : PySem.W.Frag} {mg : Str → Option Value} {base : Heap} {ad : Nat → Addr} {fd : Nat → FuncData}
def spCount : Sp := fun vs H Q _ => ∃ (m B : Nat), vs = [.int m] ∧ m < 2 ^ B ∧ B ≤ 1000 ∧ Q (.int ((bitL B m).length : Nat)) H
theorem ok_count_of (T : Txt K mg ad fd) : FnOk P w K mg base CX0 1 (ad 34) (fd 34) ["mask"] spCount := by
  refine T.F_count_of.ok sc_count_of (fun vs H Q E h => ?_) (fun cdv A outer s H vs Q E hr h => ?_)
  · obtain ⟨m, B, rfl, _⟩ := h
    rfl
  · obtain ⟨m, B, rfl, hm, hB, k⟩ := h
    refine ⟨_, (pss_cons (ps_set (i := 1) sc_count_of.nd rfl (Or.inl rfl) (pe_joined1 (pe_fmtB (pv 0))))
  (pss_one (ps_ret (pe_m1 PySem.F.slot_str_count PySem.F.type_str_count mt_count (pv 1) pe_str)))), ?_⟩
    refine ⟨_, rfl, m, rfl, Nat.lt_of_lt_of_le hm (Nat.pow_le_pow_right (by decide) hB), ?_⟩
    refine ⟨_, rfl, ⟨_, rfl⟩, _, _, rfl, rfl, ?_⟩
    rw [count_bin hm]
    exact k
end
end LK
namespace LK
open PySem PySem.Spec PyProof.Rows L2
section
variable {P : Program} {w : World} {K : PySem.W.Frag} {mg : Str → Option Value} {base : Heap} {ad : Nat → Addr} {fd : Nat → FuncData}
def spTieC (K : PySem.W.Frag) : Sp := fun vs H Q _ => ∃ (n : Int) (L : Addr) (xs : List V) (rows : List (List Int)), vs = [.ref L] ∧ SqT K H L xs ∧ xs.length ≤ 1000 ∧ RpAll K H xs (rows.map dTup) ∧ RowsIn n rows ∧ 0 ≤ n ∧ n ≤ 1000 ∧ ∀ H', Same H H' → Q (.int (tieC rows)) H'
theorem ok_tie_count (T : Txt K mg ad fd) : FnOk P w K mg base CX0 2 (ad 38) (fd 38) ["lists"] (spTieC K) := by
  refine T.F_tie_count.ok sc_tie_count (fun vs H Q E h => ?_) (fun cdv A outer s H vs Q E hr h => ?_)
  · obtain ⟨n, L, xs, rows, rfl, _⟩ := h
    rfl
  · obtain ⟨n, L, xs, rows, rfl, hL, hz, hr2, hin, hn0, hn1, k⟩ := h
    have lx : xs.length = rows.length := by rw [hr2.length, List.length_map]
    have hs1 : (1000 : Nat) < sizeLine := by decide
    have hth : ∀ x ∈ firsts rows, 0 ≤ x ∧ x < n := fun x hx => by
      obtain ⟨r, hr, hx⟩ := firsts_mem.mp hx
      exact hin r hr x hx
    have hlt := small_len (firsts_nodup rows) hth
    refine ⟨_, (pss_cons (ps_set (i := 1) sc_tie_count.nd rfl (Or.inr rfl) pe_dnewK)
  (pss_cons (ps_for PassesOwn.never rfl (piT K (pv 0)) (pg_name (i := 2) (x := "things") sc_tie_count.nd rfl (Or.inl rfl))
  (pss_one (ps_for PassesOwn.never rfl (piT K (pv 2)) (pg_name (i := 4) (x := "thing") sc_tie_count.nd rfl (Or.inl rfl))
  (pss_one (ps_expr (pe_dsetd (pv 1) (pv 4) (pe_callB call_lenD (by rfl) T.g_len (by decide +kernel) (pa_cons (pv 1) pa_nil)) ⟨rfl, rfl, rfl, rfl⟩))))))
  (pss_cons (ps_set (i := 3) sc_tie_count.nd rfl (Or.inl rfl) (pe_op op_rep (pe_lst (pa_cons pe_int pa_nil)) (pe_callB call_lenD (by rfl) T.g_len (by decide +kernel) (pa_cons (pv 1) pa_nil))))
  (pss_cons (ps_for PassesOwn.never rfl (piT K (pv 0)) (pg_name (i := 2) (x := "things") sc_tie_count.nd rfl (Or.inl rfl))
  (pss_cons (ps_set (i := 5) sc_tie_count.nd rfl (Or.inl rfl) (pe_call (ok_mask_of T) (hr.mono (by decide)) rfl T.m_mask_of T.F_mask_of.kp (b_mask_of T) .nil pass0 (pa_cons (pe_lc (own := [("thing", 4)]) (g := gName 4) rfl sc_tie_count.nd (piT K (pv 2)) (blkOk_by (N := ["lists", "spots", "things", "near", "thing", "whole", "mask"]) (sc := defScope s_tie_count) (by decide +kernel)) (fun _ _ _ _ _ => (pg_name (i := 4) (x := "thing") sc_tie_count.nd rfl (Or.inl rfl))) (fun _ _ _ _ _ => pts_nil) (fun _ _ _ _ _ => (pe_dget (hu_of hr) (pv 1) (pv 4) (fun _ _ => rfl)))) pa_nil)))
  (pss_one (ps_for PassesOwn.never rfl (piT K (pv 2)) (pg_name (i := 4) (x := "thing") sc_tie_count.nd rfl (Or.inl rfl))
  (pss_one (ps_asg (pe_op op_or (pe_ix (ixL K) (pv 3) (pe_dget (hu_of hr) (pv 1) (pv 4) (fun _ _ => rfl)) (fun _ _ => rfl)) (pv 5)) (pg_sub (pv 3) (pe_dget (hu_of hr) (pv 1) (pv 4) (fun _ _ => rfl)) set_list)))))))
  (pss_one (ps_ret (pe_op op_fdiv (pe_callB (sumR K) (by rfl) T.g_sum (by decide +kernel) (pa_cons (pe_lc (own := [("mask", 6)]) (g := gName 6) rfl sc_tie_count.nd (piL K (pv 3)) (blkOk_by (N := ["lists", "spots", "things", "near", "thing", "whole", "mask"]) (sc := defScope s_tie_count) (by decide +kernel)) (fun _ _ _ _ _ => (pg_name (i := 6) (x := "mask") sc_tie_count.nd rfl (Or.inl rfl))) (fun _ _ _ _ _ => pts_nil) (fun _ _ _ _ _ => (pe_op op_sub (pe_call (ok_count_of T) (hr.mono (by decide)) rfl T.m_count_of T.F_count_of.kp (b_count_of T) .nil pass0 (pa_cons (pv 6) pa_nil)) pe_int))) pa_nil)) pe_int))))))), ?_⟩
    refine fun D hD => ⟨_, rfl, L, rfl, ⟨_, seqT (same_upd hD) hL⟩, for_tup (K := K) (a := L) (xs := xs)
      (fun i σ H1 => ∃ (kvs : List (Key × V)) (v2 v4 : Option V), σ = [some (.ref L), some (.ref D), v2, none, v4, none, none] ∧ Same H H1 ∧ H1 D = some (.dK kvs) ∧ SpotOk (firsts (rows.take i)) kvs)
      ⟨[], none, none, rfl, same_upd hD, upd_same, spot_start⟩ (fun i σ H1 _ ⟨_, _, _, _, s1, _⟩ => seqT s1 hL) (fun i x σ H1 hi ⟨kvs, v2, v4, e1, s1, hk, sp⟩ => ?_) (fun σ H1 ⟨kvs, v2, v4, e1, s1, hk, sp⟩ => ?_)⟩
    · subst e1
      obtain ⟨r, a, hrow, rfl, t⟩ := hr2.row hi
      have hin2 := rowAt hin hrow
      have t1 := t.same s1
      refine ⟨_, rfl, a, rfl, ⟨_, t1.1⟩, for_tup (K := K) (a := a) (xs := r.map V.int)
        (fun j σ H1 => ∃ (kvs : List (Key × V)) (v4 : Option V), σ = [some (.ref L), some (.ref D), some (.ref a), none, v4, none, none] ∧ Same H H1 ∧ H1 D = some (.dK kvs) ∧ SpotOk (firstsL (firsts (rows.take i)) (r.take j)) kvs)
        ⟨kvs, v4, rfl, s1, hk, sp⟩ (fun i σ H1 _ ⟨_, _, _, s1, _⟩ => seqT s1 t.1) (fun j x σ H2 hj ⟨kvs2, v42, e2, s2, hk2, sp2⟩ => ?_) (fun σ H2 ⟨kvs2, v42, e2, s2, hk2, sp2⟩ => ?_)⟩
      · subst e2
        obtain ⟨z, hz2, rfl⟩ := intAt hj
        have hle : kvs2.length < sizeLine := by
          rw [sp2.1]
          have := small_len (n := n) (firstsL_nodup (l := r.take j) (firsts_nodup (rows.take i))) fun x hx => by
            rcases firstsL_mem.mp hx with h | h
            · obtain ⟨q, hq, hx⟩ := firsts_mem.mp h
              exact hin q (List.mem_of_mem_take hq) x hx
            · exact hin2 x (List.mem_of_mem_take h)
          omega
        refine ⟨_, rfl, D, rfl, .inl ⟨kvs2, .inl hk2⟩, _, rfl, _, rfl, D, kvs2, rfl, hk2, kvs2, Sum.inl z, hk2, rfl, hle, fun v hv => ?_, fun hv => ?_⟩
        · have hm : z ∈ firstsL (firsts (rows.take i)) (r.take j) := by
            apply Classical.byContradiction
            intro hm
            rw [sp2.2 z, if_neg hm] at hv
            cases hv
          refine ⟨kvs2, _, rfl, s2, hk2, ?_⟩
          rw [firstsL_take hz2]
          exact spot_old sp2 hm
        · have hm : ¬ z ∈ firstsL (firsts (rows.take i)) (r.take j) := by
            intro hm
            rw [sp2.2 z, if_pos hm] at hv
            cases hv
          refine ⟨_, _, rfl, same_upd2 hD s2, upd_same, ?_⟩
          rw [firstsL_take hz2]
          exact spot_new sp2 hm
      · subst e2
        refine ⟨kvs2, _, _, rfl, s2, hk2, ?_⟩
        rw [firsts_take hrow]
        rw [List.length_map, List.take_length] at sp2
        exact sp2
    · subst e1
      rw [lx, List.take_length] at sp
      generalize hthe : firsts rows = th at sp hth hlt
      have nd : th.Nodup := hthe ▸ firsts_nodup rows
      have hall : ∀ r ∈ rows, ∀ x ∈ r, x ∈ th := fun r hr x hx => by
        rw [← hthe]
        exact firsts_mem.mpr ⟨r, hr, hx⟩
      have hlen : kvs.length = th.length := sp.1
      refine ⟨(by show 1 ≤ sizeLine; decide), fun D0 hD0 => ⟨_, rfl, D, kvs, rfl, same_upd hD0 _ _ hk, D0, (kvs.length : Int), [V.int 0], rfl, rfl, upd_same, by omega, by omega, ?_, fun N hN0 => ?_⟩⟩
      · show 1 * ((kvs.length : Nat) : Int).toNat ≤ sizeLine
        omega
      have hN1 : H1 N = none := (same_upd hD0).free hN0
      have hN : H N = none := s1.free hN1
      have ND : D ≠ N := ne_of_none hk hN1
      have flat : (List.replicate ((kvs.length : Nat) : Int).toNat [V.int 0]).flatten = (natI (List.replicate th.length 0)).map V.int := by
        rw [show ((kvs.length : Nat) : Int).toNat = th.length by omega]
        exact flat_zero _
      have sN : Same H (upd (upd H1 D0 (.lst [V.int 0])) N (.lst (List.replicate ((kvs.length : Nat) : Int).toNat [V.int 0]).flatten)) := same_upd2 hN (s1.trans (same_upd hD0))
      have hkN : (upd (upd H1 D0 (.lst [V.int 0])) N (.lst (List.replicate ((kvs.length : Nat) : Int).toNat [V.int 0]).flatten)) D = some (.dK kvs) := by
        rw [upd_ne ND]
        exact same_upd hD0 _ _ hk
      refine ⟨_, rfl, L, rfl, ⟨_, seqT sN hL⟩, for_tup (K := K) (a := L) (xs := xs)
        (fun i σ H2 => ∃ (ms : List Nat) (v2 v4 v5 : Option V), σ = [some (.ref L), some (.ref D), v2, some (.ref N), v4, v5, none] ∧ Same H H2 ∧ H2 D = some (.dK kvs) ∧ H2 N = some (.lst ((natI ms).map V.int)) ∧ NearT th (rows.take i) ms)
        ⟨List.replicate th.length 0, _, _, _, rfl, sN, hkN, by rw [upd_same, flat], neart_start th⟩ (fun i σ H2 _ ⟨_, _, _, _, _, s2, _⟩ => seqT s2 hL) (fun i x σ H2 hi ⟨ms, v2, v4, v5, e2, s2, hk2, hm2, nk⟩ => ?_) (fun σ H2 ⟨ms, v2, v4, v5, e2, s2, hk2, hm2, nk⟩ => ?_)⟩
      · subst e2
        obtain ⟨r, a, hrow, rfl, t⟩ := hr2.row hi
        have hin2 := rowAt hin hrow
        have hrt : ∀ x ∈ r, x ∈ th := hall r (List.mem_of_getElem? hrow)
        have t2 := t.same s2
        have dget : ∀ {H3 : Hp} {z : Int}, H3 D = some (.dK kvs) → z ∈ r → DGet H3 D (.int z) (some (V.int (th.idxOf z : Nat))) := fun {H3 z} h3 hz3 =>
          .inl ⟨kvs, Sum.inl z, .inl h3, rfl, by rw [sp.2 z, if_pos (hrt z hz3)]⟩
        refine ⟨_, rfl, a, rfl, ⟨_, t2.1⟩, fun D3 hD3 => ?_⟩
        refine lcT (K := K) (xs := r.map V.int) (fun _ => true) (fun j => .int ((th.idxOf (r.getD j 0) : Nat) : Int)) hD3 t2.1 (by rw [List.length_map]; exact t.2) (fun _ _ _ => rfl) (fun j v H3 hj s3 Q3 Q4 k3 k4 => ?_) (fun zs H3 s3 hz3 r3 => ?_)
        · obtain ⟨z, hz2, rfl⟩ := intAt hj
          have hg : r.getD j 0 = z := by rw [List.getD_eq_getElem?_getD, hz2]; rfl
          rw [hg] at k3
          exact ⟨rfl, _, rfl, _, rfl, D, _, rfl, dget (s3 _ _ hk2) (List.mem_of_getElem? hz2), k3 rfl _ _ (Same.refl _) (.int _)⟩
        · rw [filter_true] at r3
          have ez : (List.range (r.map V.int).length).map (fun j => PyData.int ((th.idxOf (r.getD j 0) : Nat) : Int)) = (idxs th r).map PyData.int := by
            rw [List.length_map]
            unfold idxs
            rw [List.map_map]
            exact map_range (fun x => PyData.int ((th.idxOf x : Nat) : Int)) 0 r
          rw [ez] at r3
          have := r3.ofInts
          subst this
          have hix : ∀ x ∈ idxs th r, 0 ≤ x ∧ x ≤ 1000 := fun x hx => by
            obtain ⟨y, hy, rfl⟩ := List.mem_map.mp hx
            have := List.idxOf_lt_length_of_mem (hrt y hy)
            omega
          refine ⟨D3, idxs th r, rfl, .inl (SqL.of hz3), hix, ?_⟩
          have t3 := t2.same s3
          refine ⟨_, rfl, a, rfl, ⟨_, t3.1⟩, for_tup (K := K) (a := a) (xs := r.map V.int)
            (fun j σ H4 => ∃ (ms : List Nat) (v4 : Option V), σ = [some (.ref L), some (.ref D), some (.ref a), some (.ref N), v4, some (.int (maskL (idxs th r) : Nat)), none] ∧ Same H H4 ∧ H4 D = some (.dK kvs) ∧ H4 N = some (.lst ((natI ms).map V.int)) ∧ NearTI th (rows.take i) r (r.take j) ms)
            ⟨ms, _, rfl, s2.trans s3, s3 _ _ hk2, s3 _ _ hm2, neart_in nk⟩ (fun i σ H4 _ ⟨_, _, _, s4, _⟩ => seqT s4 t.1) (fun j x σ H4 hj ⟨ms3, v43, e3, s4, hk4, hm4, nk4⟩ => ?_) (fun σ H4 ⟨ms3, v43, e3, s4, hk4, hm4, nk4⟩ => ?_)⟩
          · subst e3
            obtain ⟨z, hz2, rfl⟩ := intAt hj
            have hzr := List.mem_of_getElem? hz2
            have hxl : th.idxOf z < ms3.length := by
              rw [nk4.1]
              exact List.idxOf_lt_length_of_mem (hrt z hzr)
            obtain ⟨m, hm⟩ : ∃ m, ms3[th.idxOf z]? = some m := ⟨ms3[th.idxOf z], List.getElem?_eq_getElem hxl⟩
            refine ⟨_, rfl, _, rfl, _, rfl, D, _, rfl, dget hk4 hzr, N, _, _, _, rfl, rfl, SqL.of hm4, atI_nat (natI_get hm), ?_⟩
            refine ⟨_, rfl, _, _, rfl, rfl, _, rfl, _, rfl, _, rfl, D, _, rfl, dget hk4 hzr, N, _, _, th.idxOf z, rfl, rfl, hm4, ixN_nat (by rw [List.length_map, natI_length]; exact hxl), ?_⟩
            refine ⟨ms3.set (th.idxOf z) (m ||| maskL (idxs th r)), _, rfl, same_upd2 hN s4, ?_, ?_, neart_step nd hrt hz2 nk4 hm⟩
            · rw [upd_ne ND]
              exact hk4
            · rw [upd_same]
              show some (HO.lst (((natI ms3).map V.int).set (th.idxOf z) (.int (Builtin.bitOr (m : Int) (maskL (idxs th r) : Int))))) = _
              rw [or_nat, natI_set]
          · subst e3
            refine ⟨ms3, _, _, _, rfl, s4, hk4, hm4, ?_⟩
            rw [List.length_map, List.take_length] at nk4
            exact neart_end hrow nk4
      · subst e2
        rw [lx, List.take_length] at nk
        have lms : ms.length = th.length := nk.1
        refine ⟨_, rfl, N, rfl, ⟨_, SqL.of hm2⟩, fun D5 hD5 => ?_⟩
        refine lcL (K := K) (xs := (natI ms).map V.int) (fun _ => true) (fun j => .int (((th.filter fun y => tiedB rows (th.getD j 0) y).length : Int) - 1)) hD5 (SqL.of hm2) (by rw [List.length_map, natI_length]; omega) (fun _ _ _ => rfl) (fun j v H3 hj s3 Q3 Q4 k3 k4 => ?_) (fun zs H3 s3 hz3 r3 => ?_)
        · obtain ⟨z, hz2, rfl⟩ := intAt hj
          obtain ⟨m, hm, rfl⟩ : ∃ m : Nat, ms[j]? = some m ∧ z = (m : Int) := by
            unfold natI at hz2
            rw [List.getElem?_map] at hz2
            cases e : ms[j]? with
            | none => rw [e] at hz2; cases hz2
            | some m => rw [e] at hz2; exact ⟨m, rfl, (Option.some.inj hz2).symm⟩
          obtain ⟨hm1, hm3⟩ := neart_count nk hm
          refine ⟨rfl, _, rfl, m, th.length, rfl, hm1, by omega, _, _, rfl, rfl, ?_⟩
          rw [hm3]
          exact k3 rfl _ _ (Same.refl _) (.int _)
        · rw [filter_true] at r3
          have ez : (List.range ((natI ms).map V.int).length).map (fun j => PyData.int (((th.filter fun y => tiedB rows (th.getD j 0) y).length : Int) - 1)) = (th.map fun x => ((th.filter fun y => tiedB rows x y).length : Int) - 1).map PyData.int := by
            rw [List.length_map, natI_length, lms, List.map_map]
            exact map_range (fun x => PyData.int (((th.filter fun y => tiedB rows x y).length : Int) - 1)) 0 th
          rw [ez] at r3
          have := r3.ofInts
          subst this
          refine ⟨D5, _, rfl, SqL.of hz3, _, _, rfl, rfl, ⟨by decide, by decide⟩, ?_⟩
          have e9 : tieC rows = (th.map fun x => ((th.filter fun y => tiedB rows x y).length : Int) - 1).sum / 2 := by
            unfold tieC
            rw [hthe]
          have k9 := k _ (s2.trans s3)
          rw [e9] at k9
          exact k9
end
end LK
namespace LK
open PySem PySem.Spec PyProof.Rows L2
/-- a row that can stand in a book -/
def GoodRow (n : Int) (r : List Int) : Prop := 2 ≤ r.length ∧ rising r = true ∧ ∀ x ∈ r, 0 ≤ x ∧ x < n
theorem goodRow_below {n : Int} {r : List Int} (h : ∀ x ∈ r, 0 ≤ x ∧ x < n) : areBelow n (dTup r) = true := by
  unfold areBelow dTup
  show (r.map PyData.int).all (isBelow n) = true
  rw [List.all_map]
  exact List.all_eq_true.mpr fun x hx => by simpa [isBelow] using h x hx
section
variable {P : Program} {w : World} {K : PySem.W.Frag} {mg : Str → Option Value} {base : Heap} {ad : Nat → Addr} {fd : Nat → FuncData}
def spCheck (K : PySem.W.Frag) : Sp := fun vs H Q _ => ∃ (n : Int) (a : Addr) (r : List Int) (v : V), vs = [.int n, .ref a, v] ∧ TupI K H a r ∧ GoodRow n r ∧ ∀ H', Same H H' → Q .non H'
theorem ok_check_list (T : Txt K mg ad fd) : FnOk P w K mg base (L2.CX P w) 5 (ad 37) (fd 37) ["size", "things", "k"] (spCheck K) := by
  refine T.F_check_list.okX sc_check_list (fun vs H Q E h => ?_) (fun cdv A outer s H vs Q E hr h => ?_)
  · obtain ⟨n, a, r, v, rfl, _⟩ := h
    rfl
  · obtain ⟨n, a, r, v, rfl, ta, ⟨h1, h2, h3⟩, k⟩ := h
    refine ⟨_, (pss_cons (ps_if (pt_not (pt_val (pe_callB (isiR K) (by rfl) T.g_isinstance (by decide +kernel) (pa_cons (pv 1) (pa_cons (pe_bltn (v := .ty "tuple") (by rfl) T.g_tuple (by decide +kernel) rfl) pa_nil))))) (pss_one (ps_raise rfl (takes_of rfl rfl rfl rfl) (pmk_oex T.ox_InvalidPaper T.i_InvalidPaper T.t_InvalidPaper (ok_init_InvalidPaper T) (hr.mono (by decide)) (b_init_InvalidPaper T) .nil pass0 rfl T.m_InvalidPaper (pa_cons pe_str (pa_cons (pv 2) pa_nil)))))
  pss_nil)
  (pss_cons (ps_if (pt_cmpR op_lt (pe_callB (lenS K) (by rfl) T.g_len (by decide +kernel) (pa_cons (pv 1) pa_nil)) pe_int (nomark _)) (pss_one (ps_raise rfl (takes_of rfl rfl rfl rfl) (pmk_oex T.ox_InvalidPaper T.i_InvalidPaper T.t_InvalidPaper (ok_init_InvalidPaper T) (hr.mono (by decide)) (b_init_InvalidPaper T) .nil pass0 rfl T.m_InvalidPaper (pa_cons pe_str (pa_cons (pv 2) pa_nil)))))
  pss_nil)
  (pss_cons (ps_if (pt_not (pt_val (pe_call (ok_are_below T) (hr.mono (by decide)) rfl T.m_are_below T.F_are_below.kp (b_are_below T) .nil pass0 (pa_cons (pv 0) (pa_cons (pv 1) pa_nil))))) (pss_one (ps_raise rfl (takes_of rfl rfl rfl rfl) (pmk_oex T.ox_InvalidPaper T.i_InvalidPaper T.t_InvalidPaper (ok_init_InvalidPaper T) (hr.mono (by decide)) (b_init_InvalidPaper T) .nil pass0 rfl T.m_InvalidPaper (pa_cons pe_str (pa_cons (pv 2) pa_nil)))))
  pss_nil)
  (pss_one (ps_if (pt_not (pt_val (pe_call (ok_is_rising T) (hr.mono (by decide)) rfl T.m_is_rising T.F_is_rising.kp (b_is_rising T) .nil pass0 (pa_cons (pv 1) pa_nil)))) (pss_one (ps_raise rfl (takes_of rfl rfl rfl rfl) (pmk_oex T.ox_InvalidPaper T.i_InvalidPaper T.t_InvalidPaper (ok_init_InvalidPaper T) (hr.mono (by decide)) (b_init_InvalidPaper T) .nil pass0 rfl T.m_InvalidPaper (pa_cons pe_str (pa_cons (pv 2) pa_nil)))))
  pss_nil))))), ?_⟩
    refine ⟨_, rfl, .ref a, .ty "tuple", _, _, _, rfl, .ty _, ta.rp.ty, isi_tuple ta.rp, _, rfl, ?_⟩
    refine iteF ⟨_, rfl, a, _, rfl, .inr ta.1, _, _, rfl, rfl, _, rfl, ?_⟩
    rw [decide_eq_false (show ¬ (((r.map V.int).length : Nat) : Int) < 2 by rw [List.length_map]; omega)]
    refine iteF ⟨_, rfl, _, rfl, n, .ref a, dTup r, rfl, ta.rp, fun H1 s1 => ⟨_, rfl, ?_⟩⟩
    rw [goodRow_below h3]
    refine iteF ⟨_, rfl, a, r, rfl, ta.same s1, fun H2 s2 => ⟨_, rfl, ?_⟩⟩
    rw [h2]
    exact iteF (k _ (s1.trans s2))
theorem ok_lets_book (T : Txt K mg ad fd) : FnOk P w K mg base (L2.CX P w) 6 (ad 39) (fd 39) ["thing"] (fun vs H Q _ => ∃ (v : V) (n : Int) (rows : List (List Int)), vs = [v] ∧ Rp K H v (bookD n rows) ∧ (∀ r ∈ rows, GoodRow n r) ∧ 1 ≤ n ∧ n ≤ 1000 ∧ ∀ H', Same H H' → Q (.int (tieC rows)) H') := by
  refine T.F_lets_book.okX sc_lets_book (fun vs H Q E h => ?_) (fun cdv A outer s H vs Q E hr h => ?_)
  · obtain ⟨v, n, rows, rfl, _⟩ := h
    rfl
  · obtain ⟨v, n, rows, rfl, h, hg, h1, h2, k⟩ := h
    have h0 := h
    obtain ⟨b, L, xs, rfl, hb, hL, hz, hr2⟩ := rp_book h
    have hin : RowsIn n rows := fun r hr x hx => (hg r hr).2.2 x hx
    refine ⟨_, (pss_cons (ps_if (PW.pt (pw_or (pt_not (pt_val (pe_callB (isiR K) (by rfl) T.g_isinstance (by decide +kernel) (pa_cons (pv 0) (pa_cons (pe_bltn (v := .ty "tuple") (by rfl) T.g_tuple (by decide +kernel) rfl) pa_nil))))) (pw_or1 (pt_cmpR op_ne (pe_callB (lenS K) (by rfl) T.g_len (by decide +kernel) (pa_cons (pv 0) pa_nil)) pe_int (nomark _))))) (pss_one (ps_raise rfl (takes_of rfl rfl rfl rfl) (pmk_oex T.ox_InvalidPaper T.i_InvalidPaper T.t_InvalidPaper (ok_init_InvalidPaper T) (hr.mono (by decide)) (b_init_InvalidPaper T) .nil pass0 rfl T.m_InvalidPaper (pa_cons pe_str (pa_cons (pe_un un_neg pe_int) pa_nil)))))
  pss_nil)
  (pss_cons (ps_asg (pv 0) (pg_tup rfl (pgs_cons (pg_name (i := 1) (x := "size") sc_lets_book.nd rfl (Or.inl rfl)) (pgs_cons (pg_name (i := 2) (x := "lists") sc_lets_book.nd rfl (Or.inl rfl)) pgs_nil))))
  (pss_cons (ps_if (PW.pt (pw_or (pt_not (pt_val (pe_call (ok_is_integer T) (hr.mono (by decide)) rfl T.m_is_integer T.F_is_integer.kp (b_is_integer T) .nil pass0 (pa_cons (pv 1) pa_nil)))) (pw_or1 (pt_cmpR op_lt (pv 1) pe_int (nomark _))))) (pss_one (ps_raise rfl (takes_of rfl rfl rfl rfl) (pmk_oex T.ox_InvalidPaper T.i_InvalidPaper T.t_InvalidPaper (ok_init_InvalidPaper T) (hr.mono (by decide)) (b_init_InvalidPaper T) .nil pass0 rfl T.m_InvalidPaper (pa_cons pe_str (pa_cons (pe_un un_neg pe_int) pa_nil)))))
  pss_nil)
  (pss_cons (ps_if (pt_not (pt_val (pe_callB (isiR K) (by rfl) T.g_isinstance (by decide +kernel) (pa_cons (pv 2) (pa_cons (pe_bltn (v := .ty "tuple") (by rfl) T.g_tuple (by decide +kernel) rfl) pa_nil))))) (pss_one (ps_raise rfl (takes_of rfl rfl rfl rfl) (pmk_oex T.ox_InvalidPaper T.i_InvalidPaper T.t_InvalidPaper (ok_init_InvalidPaper T) (hr.mono (by decide)) (b_init_InvalidPaper T) .nil pass0 rfl T.m_InvalidPaper (pa_cons pe_str (pa_cons (pe_un un_neg pe_int) pa_nil)))))
  pss_nil)
  (pss_cons (ps_for (passes_of rfl) rfl (pi_enumT (K := K) rfl T.g_enumerate (pa_cons (pv 2) pa_nil)) (pg_tup rfl (pgs_cons (pg_name (i := 3) (x := "k") sc_lets_book.nd rfl (Or.inl rfl)) (pgs_cons (pg_name (i := 4) (x := "things") sc_lets_book.nd rfl (Or.inl rfl)) pgs_nil)))
  (pss_one (ps_expr (pe_call (ok_check_list T) (hr.mono (by decide)) rfl T.m_check_list T.F_check_list.kp (b_check_list T) .nil (passes_call (takes_of rfl rfl rfl rfl) fun _ _ _ _ h => h) (pa_cons (pv 1) (pa_cons (pv 4) (pa_cons (pv 3) pa_nil)))))))
  (pss_one (ps_ret (pe_call (ok_tie_count T) (hr.mono (by decide)) rfl T.m_tie_count T.F_tie_count.kp (b_tie_count T) .nil pass0 (pa_cons (pv 2) pa_nil))))))))), ?_⟩
    refine ⟨_, rfl, .ref b, .ty "tuple", _, _, _, rfl, .ty _, h0.ty, isi_tuple h0, _, rfl, ?_⟩
    refine iteF ⟨_, rfl, _, _, rfl, .inr hb, rfl, _, rfl, ?_⟩
    refine iteF ⟨_, rfl, b, _, rfl, hb, rfl, _, _, rfl, _, _, rfl, rfl, ?_⟩
    refine ⟨_, rfl, .int n, .int n, rfl, .int n, _, rfl, ?_⟩
    refine iteF ⟨_, rfl, _, _, rfl, rfl, _, rfl, ?_⟩
    rw [decide_eq_false (show ¬ n < 1 by omega)]
    have hLr : Rp K H (.ref L) (.tuple (rows.map dTup)) := .tup hL hz hr2
    refine iteF ⟨_, rfl, .ref L, .ty "tuple", _, _, _, rfl, .ty _, hLr.ty, isi_tuple hLr, _, rfl, ?_⟩
    refine iteF ⟨_, rfl, L, _, rfl, hL, for_enumT (K := K) (a := L) (xs := xs) (fun i σ H1 => ∃ v3 v4, σ = [some (.ref b), some (.int n), some (.ref L), v3, v4] ∧ Same H H1)
      ⟨none, none, rfl, Same.refl _⟩ (fun i σ H1 _ ⟨_, _, _, s1⟩ => seqT s1 hL) (fun i x σ H1 TT hi ⟨v3, v4, e1, s1⟩ hT => ?_) (fun σ H1 ⟨v3, v4, e1, s1⟩ => ?_)⟩
    · subst e1
      obtain ⟨r, a, hrow, rfl, t⟩ := hr2.row hi
      have sT : Same H (upd H1 TT (.tup [.int (i : Nat), .ref a])) := s1.trans (same_upd hT)
      refine ⟨TT, _, rfl, SqT.of upd_same, rfl, _, _, rfl, _, _, rfl, rfl, ?_⟩
      exact ⟨_, rfl, _, rfl, _, rfl, n, a, r, _, rfl, t.same sT, hg r (List.mem_of_getElem? hrow), fun H2 s2 => ⟨_, _, rfl, sT.trans s2⟩⟩
    · subst e1
      exact ⟨_, rfl, n, L, xs, rows, rfl, seqT s1 hL, hz, hr2.same s1, hin, by omega, h2, fun H2 s2 => k _ (s1.trans s2)⟩
end
end LK
/-! pairs, neighbours, rows: the pure facts -/
namespace LK
open PySem PySem.Spec PyProof.Rows L2
theorem flatMap_eq {α β : Type} {f g : α → List β} : ∀ {l : List α}, (∀ x ∈ l, f x = g x) → l.flatMap f = l.flatMap g
  | [], _ => rfl
  | x :: l, h => by
    rw [List.flatMap_cons, List.flatMap_cons, h x (by simp), flatMap_eq fun y hy => h y (by simp [hy])]
theorem filter_eq {α : Type} {p q : α → Bool} : ∀ {l : List α}, (∀ x ∈ l, p x = q x) → l.filter p = l.filter q
  | [], _ => rfl
  | x :: l, h => by
    rw [List.filter_cons, List.filter_cons, h x (by simp), filter_eq fun y hy => h y (by simp [hy])]
theorem range_split {m i : Nat} (h : i < m) : List.range m = List.range (i + 1) ++ (List.range (m - (i + 1))).map fun j => i + 1 + j := by
  have e : m = (i + 1) + (m - (i + 1)) := by omega
  conv => lhs; rw [e]
  rw [List.range_add]
theorem filter_none {α : Type} {p : α → Bool} {l : List α} (h : ∀ x ∈ l, p x = false) : l.filter p = [] := List.filter_eq_nil_iff.mpr fun x hx => by rw [h x hx]; decide
theorem filter_all {α : Type} {p : α → Bool} {l : List α} (h : ∀ x ∈ l, p x = true) : l.filter p = l := List.filter_eq_self.mpr h
section
variable {m : Nat} {rows : List (List Int)} {q : Nat → Nat → Bool}
/-- q tells which two are tied -/
def QOk (m : Nat) (rows : List (List Int)) (q : Nat → Nat → Bool) : Prop := ∀ i j, i < m → j < m → q i j = tiedB rows (i : Int) (j : Int)
theorem ties_pairs (hq : QOk m rows q) : tiesL (m : Int) rows = pairsL m q := by
  unfold tiesL pairsL
  rw [Int.toNat_natCast]
  refine flatMap_eq fun x hx => ?_
  have hx := List.mem_range.mp hx
  unfold tiesAt pairsAt nearN
  rw [Int.toNat_natCast, List.filter_filter, range_split hx, List.filter_append]
  have e1 : (List.range (x + 1)).filter (fun y : Nat => decide ((x : Int) < (y : Int)) && decide ((x : Int) ≠ (y : Int) ∧ tiedB rows (x : Int) (y : Int) = true)) = [] := filter_none fun y hy => by
    have := List.mem_range.mp hy
    rw [decide_eq_false (by omega), Bool.false_and]
  rw [e1, List.nil_append, List.filter_map, List.map_map]
  have e2 : (List.range (m - (x + 1))).filter ((fun y : Nat => decide ((x : Int) < (y : Int)) && decide ((x : Int) ≠ (y : Int) ∧ tiedB rows (x : Int) (y : Int) = true)) ∘ fun j => x + 1 + j) = (List.range (m - (x + 1))).filter fun j => q x (x + 1 + j) := filter_eq fun j hj => by
    have := List.mem_range.mp hj
    show (decide ((x : Int) < ((x + 1 + j : Nat) : Int)) && decide ((x : Int) ≠ ((x + 1 + j : Nat) : Int) ∧ tiedB rows (x : Int) ((x + 1 + j : Nat) : Int) = true)) = _
    rw [hq x (x + 1 + j) hx (by omega), decide_eq_true (show (x : Int) < ((x + 1 + j : Nat) : Int) by omega), Bool.true_and]
    cases c : tiedB rows (x : Int) ((x + 1 + j : Nat) : Int) with
    | true => exact decide_eq_true ⟨by omega, rfl⟩
    | false => exact decide_eq_false fun z => by cases z.2
  rw [e2]
  rfl
theorem mem_pairs {r : List Int} : r ∈ pairsL m q ↔ ∃ i j : Nat, i < j ∧ j < m ∧ q i j = true ∧ r = [(i : Int), (j : Int)] := by
  unfold pairsL pairsAt
  rw [List.mem_flatMap]
  constructor
  · rintro ⟨i, hi, hr⟩
    obtain ⟨j, hj, rfl⟩ := List.mem_map.mp hr
    obtain ⟨h1, h2⟩ := List.mem_filter.mp hj
    have := List.mem_range.mp h1
    exact ⟨i, i + 1 + j, by omega, by omega, h2, rfl⟩
  · rintro ⟨i, j, hij, hj, h, rfl⟩
    refine ⟨i, List.mem_range.mpr (by omega), List.mem_map.mpr ⟨j - (i + 1), List.mem_filter.mpr ⟨List.mem_range.mpr (by omega), ?_⟩, ?_⟩⟩
    · have e : i + 1 + (j - (i + 1)) = j := by omega
      rw [e]
      exact h
    · have e : i + 1 + (j - (i + 1)) = j := by omega
      rw [e]
/-- what stands in the list of i when the pairs are gone through -/
def accR (i : Int) (r : List Int) : List Int := (if r.getD 0 0 = i then [r.getD 1 0] else []) ++ (if r.getD 1 0 = i then [r.getD 0 0] else [])
def accL (i : Int) (T : List (List Int)) : List Int := T.flatMap (accR i)
theorem flat_at {β : Type} (P : Nat → Bool) (c i : Nat) (a : β) : ∀ k : Nat, ((List.range k).filter P).flatMap (fun j => if c + j = i then [a] else []) = if c ≤ i ∧ i < c + k ∧ P (i - c) = true then [a] else []
  | 0 => by
    rw [if_neg (by omega)]
    rfl
  | k + 1 => by
    rw [List.range_succ, List.filter_append, List.flatMap_append, flat_at P c i a k]
    by_cases hk : c + k = i
    · have e : i - c = k := by omega
      rw [if_neg (by omega), List.nil_append, e]
      cases cP : P k with
      | true =>
        rw [if_pos ⟨by omega, by omega, rfl⟩]
        simp [cP, hk]
      | false =>
        rw [if_neg (fun z => by cases z.2.2)]
        simp [cP]
    · have e2 : ([k].filter P).flatMap (fun j => if c + j = i then [a] else []) = [] := by
        cases cP : P k <;> simp [cP, hk]
      rw [e2, List.append_nil]
      by_cases h : c ≤ i ∧ i < c + k ∧ P (i - c) = true
      · rw [if_pos h, if_pos ⟨h.1, by omega, h.2.2⟩]
      · rw [if_neg h, if_neg (fun z => h ⟨z.1, by omega, z.2.2⟩)]
theorem acc_at {i : Nat} (hi : i < m) (a : Nat) : accL (i : Int) (pairsAt m q a) = if a = i then ((List.range (m - (i + 1))).filter fun j => q i (i + 1 + j)).map (fun j => ((i + 1 + j : Nat) : Int)) else if a < i ∧ q a i = true then [(a : Int)] else [] := by
  unfold accL pairsAt
  rw [List.flatMap_map]
  by_cases h : a = i
  · subst h
    rw [if_pos rfl, List.map_eq_flatMap]
    refine flatMap_eq fun j _ => ?_
    unfold accR
    show (if (a : Int) = (a : Int) then [((a + 1 + j : Nat) : Int)] else []) ++ (if ((a + 1 + j : Nat) : Int) = (a : Int) then [(a : Int)] else []) = _
    rw [if_pos rfl, if_neg (by omega)]
    rfl
  · rw [if_neg h]
    have e : ((List.range (m - (a + 1))).filter fun j => q a (a + 1 + j)).flatMap (fun j => accR (i : Int) [(a : Int), ((a + 1 + j : Nat) : Int)]) = ((List.range (m - (a + 1))).filter fun j => q a (a + 1 + j)).flatMap (fun j => if (a + 1) + j = i then [(a : Int)] else []) := flatMap_eq fun j _ => by
      unfold accR
      show (if (a : Int) = (i : Int) then [((a + 1 + j : Nat) : Int)] else []) ++ (if ((a + 1 + j : Nat) : Int) = (i : Int) then [(a : Int)] else []) = _
      rw [if_neg (by omega), List.nil_append]
      by_cases c : a + 1 + j = i
      · rw [if_pos c, if_pos (by omega)]
      · rw [if_neg c, if_neg (by omega)]
    rw [e, flat_at]
    by_cases c : a < i ∧ q a i = true
    · rw [if_pos c, if_pos ⟨by omega, by omega, by rw [show a + 1 + (i - (a + 1)) = i by omega]; exact c.2⟩]
    · rw [if_neg c, if_neg fun z => c ⟨by omega, by have := z.2.2; rw [show a + 1 + (i - (a + 1)) = i by omega] at this; exact this⟩]
theorem flat_three {β : Type} {f g : Nat → List β} {X : List β} {i : Nat} (h1 : ∀ a, a < i → f a = g a) (h2 : f i = X) (h3 : ∀ a, i < a → f a = []) : ∀ m, i < m → (List.range m).flatMap f = (List.range i).flatMap g ++ X
  | 0, h => by omega
  | m + 1, h => by
    rw [List.range_succ, List.flatMap_append]
    by_cases c : i = m
    · subst c
      rw [flatMap_eq fun a ha => h1 a (List.mem_range.mp ha)]
      simp [h2]
    · rw [flat_three h1 h2 h3 m (by omega)]
      simp [h3 m (by omega)]
theorem flat_if {α β : Type} (p : α → Bool) (f : α → β) : ∀ l : List α, l.flatMap (fun a => if p a = true then [f a] else []) = (l.filter p).map f
  | [] => rfl
  | a :: l => by
    rw [List.flatMap_cons, flat_if p f l, List.filter_cons]
    cases p a <;> simp
/-- the lists of neighbours, made by pairs, are the neighbours ascending -/
theorem acc_near (hq : QOk m rows q) {i : Nat} (hi : i < m) : accL (i : Int) (pairsL m q) = natI (nearN (m : Int) rows (i : Int)) := by
  unfold pairsL accL
  rw [List.flatMap_assoc]
  have e0 : (List.range m).flatMap (fun a => (pairsAt m q a).flatMap (accR (i : Int))) = (List.range i).flatMap (fun a => if q a i = true then [(a : Int)] else []) ++ ((List.range (m - (i + 1))).filter fun j => q i (i + 1 + j)).map (fun j => ((i + 1 + j : Nat) : Int)) := by
    refine flat_three (fun a ha => ?_) ?_ (fun a ha => ?_) m hi
    · have := acc_at (q := q) hi a
      unfold accL at this
      rw [this, if_neg (by omega)]
      by_cases c : q a i = true
      · rw [if_pos ⟨ha, c⟩, if_pos c]
      · rw [if_neg (fun z => c z.2), if_neg c]
    · have := acc_at (q := q) hi i
      unfold accL at this
      rw [this, if_pos rfl]
    · have := acc_at (q := q) hi a
      unfold accL at this
      rw [this, if_neg (by omega), if_neg (by omega)]
  rw [e0, flat_if (fun a => q a i) (fun a : Nat => (a : Int))]
  unfold nearN natI
  rw [Int.toNat_natCast, range_split hi, List.filter_append, List.map_append, List.range_succ, List.filter_append]
  have e1 : [i].filter (fun y : Nat => decide ((i : Int) ≠ (y : Int) ∧ tiedB rows (i : Int) (y : Int) = true)) = [] := by simp
  have e2 : (List.range i).filter (fun y : Nat => decide ((i : Int) ≠ (y : Int) ∧ tiedB rows (i : Int) (y : Int) = true)) = (List.range i).filter fun a => q a i := filter_eq fun y hy => by
    have := List.mem_range.mp hy
    rw [hq y i (by omega) hi, tied_comm rows (y : Int)]
    cases c : tiedB rows (i : Int) (y : Int) with
    | true => exact decide_eq_true ⟨by omega, rfl⟩
    | false => exact decide_eq_false fun z => by cases z.2
  have e3 : (List.range (m - (i + 1))).filter ((fun y : Nat => decide ((i : Int) ≠ (y : Int) ∧ tiedB rows (i : Int) (y : Int) = true)) ∘ fun j => i + 1 + j) = (List.range (m - (i + 1))).filter fun j => q i (i + 1 + j) := filter_eq fun j hj => by
    have := List.mem_range.mp hj
    show decide ((i : Int) ≠ ((i + 1 + j : Nat) : Int) ∧ tiedB rows (i : Int) ((i + 1 + j : Nat) : Int) = true) = _
    rw [hq i (i + 1 + j) hi (by omega)]
    cases c : tiedB rows (i : Int) ((i + 1 + j : Nat) : Int) with
    | true => exact decide_eq_true ⟨by omega, rfl⟩
    | false => exact decide_eq_false fun z => by cases z.2
  rw [e1, e2, List.append_nil, List.filter_map, e3, List.map_map]
  rfl
theorem natI_pw {l : List Nat} (h : l.Pairwise (· < ·)) : (natI l).Pairwise (· ≤ ·) := by
  unfold natI
  refine List.Pairwise.map _ ?_ h
  intro a b h
  omega
theorem near_pw (n : Int) (rows : List (List Int)) (x : Int) : (nearN n rows x).Pairwise (· < ·) := List.Pairwise.filter _ List.pairwise_lt_range
theorem srt_near (n : Int) (rows : List (List Int)) (x : Int) : srt (natI (nearN n rows x)) = natI (nearN n rows x) := (srt_eq (List.Perm.refl _) (natI_pw (near_pw n rows x))).symm
theorem mem_near {n : Int} {rows : List (List Int)} {x y : Int} : y ∈ natI (nearN n rows x) ↔ 0 ≤ y ∧ y < n ∧ x ≠ y ∧ tiedB rows x y = true := by
  unfold natI nearN
  rw [List.mem_map]
  constructor
  · rintro ⟨a, ha, rfl⟩
    obtain ⟨h1, h2⟩ := List.mem_filter.mp ha
    have := List.mem_range.mp h1
    have h2 := of_decide_eq_true h2
    exact ⟨by omega, by omega, h2.1, h2.2⟩
  · rintro ⟨h0, h1, h2, h3⟩
    refine ⟨y.toNat, List.mem_filter.mpr ⟨List.mem_range.mpr (by omega), decide_eq_true ?_⟩, by omega⟩
    have : ((y.toNat : Nat) : Int) = y := by omega
    rw [this]
    exact ⟨h2, h3⟩
/-- the neighbours of all -/
def nearAll (m : Nat) (rows : List (List Int)) : List (List Int) := (List.range m).map fun i : Nat => natI (nearN (m : Int) rows (i : Int))
theorem nearAll_at {a : Int} (h0 : 0 ≤ a) (h1 : a < (m : Int)) : (nearAll m rows).getD a.toNat [] = natI (nearN (m : Int) rows a) := by
  unfold nearAll
  have h : a.toNat < m := by omega
  rw [List.getD_eq_getElem?_getD, List.getElem?_map, List.getElem?_range h]
  have : ((a.toNat : Nat) : Int) = a := by omega
  show natI (nearN (m : Int) rows ((a.toNat : Nat) : Int)) = _
  rw [this]
theorem chain_rising : ∀ (ns : List Int), (∀ x ∈ ns, 0 ≤ x ∧ x < (m : Int)) → (rising ns && tiedAll rows ns) = chainL (nearAll m rows) ns
  | [], _ => rfl
  | [_], _ => rfl
  | a :: b :: r, h => by
    have ih := chain_rising (b :: r) fun x hx => h x (by simp at hx ⊢; exact .inr hx)
    have ha := h a (by simp)
    have hb := h b (by simp)
    show (decide (a < b) && rising (b :: r) && (tiedB rows a b && tiedAll rows (b :: r))) = ((decide (a < b) && decide (b ∈ (nearAll m rows).getD a.toNat [])) && chainL (nearAll m rows) (b :: r))
    rw [← ih, nearAll_at ha.1 ha.2]
    have e : (decide (a < b) && decide (b ∈ natI (nearN (m : Int) rows a))) = (decide (a < b) && tiedB rows a b) := by
      by_cases c : a < b
      · rw [decide_eq_true c, Bool.true_and, Bool.true_and]
        cases ct : tiedB rows a b with
        | true => exact decide_eq_true (mem_near.mpr ⟨hb.1, hb.2, by omega, ct⟩)
        | false => exact decide_eq_false fun z => by rw [(mem_near.mp z).2.2.2] at ct; cases ct
      · rw [decide_eq_false c, Bool.false_and, Bool.false_and]
    rw [e]
    cases decide (a < b) <;> cases rising (b :: r) <;> cases tiedB rows a b <;> rfl
theorem row_eq (d : PyData) : isRow (m : Int) rows d = isRowL (nearAll m rows) d := by
  unfold isRow isRowL isLot
  have hl : (nearAll m rows).length = m := by unfold nearAll; simp
  rw [hl]
  cases c : areBelow (m : Int) d with
  | false => rfl
  | true =>
    have hd := areBelow_tup c
    have hin : ∀ x ∈ dInts d, 0 ≤ x ∧ x < (m : Int) := fun x hx => by
      rw [hd] at c
      have c2 : ((dInts d).map PyData.int).all (isBelow (m : Int)) = true := c
      rw [List.all_map] at c2
      have := List.all_eq_true.mp c2 x hx
      exact of_decide_eq_true this
    rw [← chain_rising (dInts d) hin]
    cases rising (dInts d) <;> cases decide (2 ≤ (dInts d).length) <;> cases tiedAll rows (dInts d) <;> rfl
theorem tie_iff (hq : QOk m rows q) (d : PyData) : isTie (m : Int) rows d = true ↔ d ∈ (pairsL m q).map dTup := by
  constructor
  · intro h
    unfold isTie isLot at h
    simp only [Bool.and_eq_true, decide_eq_true_iff] at h
    obtain ⟨⟨⟨c, hr⟩, hl⟩, ht⟩ := h
    have hd := areBelow_tup c
    have hin : ∀ x ∈ dInts d, 0 ≤ x ∧ x < (m : Int) := fun x hx => by
      rw [hd] at c
      have c2 : ((dInts d).map PyData.int).all (isBelow (m : Int)) = true := c
      rw [List.all_map] at c2
      have := List.all_eq_true.mp c2 x hx
      exact of_decide_eq_true this
    rw [hd]
    generalize dInts d = ns at *
    match ns, hl with
    | [a, b], _ =>
      have ha := hin a (by simp)
      have hb := hin b (by simp)
      have hab : a < b := by simpa [rising] using hr
      have ht' : tiedB rows a b = true := ht
      refine List.mem_map.mpr ⟨[a, b], mem_pairs.mpr ⟨a.toNat, b.toNat, by omega, by omega, ?_, ?_⟩, rfl⟩
      · rw [hq _ _ (by omega) (by omega)]
        have e1 : ((a.toNat : Nat) : Int) = a := by omega
        have e2 : ((b.toNat : Nat) : Int) = b := by omega
        rw [e1, e2]
        exact ht'
      · have e1 : ((a.toNat : Nat) : Int) = a := by omega
        have e2 : ((b.toNat : Nat) : Int) = b := by omega
        rw [e1, e2]
  · intro h
    obtain ⟨r, hr, rfl⟩ := List.mem_map.mp h
    obtain ⟨i, j, hij, hj, h3, rfl⟩ := mem_pairs.mp hr
    rw [hq i j (by omega) hj] at h3
    unfold isTie isLot
    rw [dInts_tup]
    have h1 : areBelow (m : Int) (dTup [(i : Int), (j : Int)]) = true := by
      show (isBelow (m : Int) (.int i) && (isBelow (m : Int) (.int j) && true)) = true
      simp [isBelow]
      omega
    have e1 : rising [(i : Int), (j : Int)] = true := by
      show (decide ((i : Int) < (j : Int)) && true) = true
      rw [decide_eq_true (by omega)]
      rfl
    rw [h1, e1]
    show ((true && true) && decide ([(i : Int), (j : Int)].length = 2) && tiedB rows (i : Int) (j : Int)) = true
    rw [h3]
    rfl
end
end LK
namespace LK
open PySem PySem.Spec PyProof.Rows L2
def spTake : Sp := fun vs H Q _ => ∃ (S p : Addr) (limit : Int), vs = [.ref S, .int limit] ∧ StOk H S p ∧ 0 < limit ∧ limit ≤ 1000 ∧ ∀ r H', 0 ≤ r → r < limit → Mv S p H H' → Q (.int r) H'
def tInt1 (ta : TA) : TE := tCB (fun xs H Q => (∃ i, xs = [V.int i] ∧ Q (V.int i) H) ∨ ∃ k, xs = [V.bl k] ∧ Q (V.int (if k = true then 1 else 0)) H) ta
def takeTail (K : PySem.W.Frag) : TS :=
  tSeq
    (tIfS (tTest (tOp (rI0 fun i j => V.bl (decide (j < i))) (tOp (rIxL K) (tVar 0) (tC (V.int 2))) (tC (V.int 0))))
      (tSeq
        (tAsg (tOp (rI (fun x j => 0 < j) fun i j => V.int (i % j)) (tInt1 (tCons (tOp (rIxL K) (tVar 0) (tC (V.int 2))) tNil)) (tVar 1)) (gName 3))
        (tSeq
          (tAsg (tOp (rI CDiv fun i j => V.int (i / j)) (tOp (rIxL K) (tVar 0) (tC (V.int 2))) (tVar 1)) (gSub (tVar 0) (tC (V.int 2)) rSetL))
          (tRet (tVar 3))))
      tNext)
    (tSeq
      (tAsg
        (tOp (rI (fun x j => 0 < j) fun i j => V.int (i % j))
          (tInt1 (tCons (tOp (rI0 fun i j => V.int (i + j)) (tOp (rI CMul fun i j => V.int (i * j)) (tOp (rIxL K) (tVar 0) (tC (V.int 3))) (tC (V.int 62089))) (tC (V.int 23))) tNil))
          (tC (V.int 2147483647)))
        (gSub (tVar 0) (tC (V.int 3)) rSetL))
      (tRet
        (tOp (rI (fun x j => 0 < j) fun i j => V.int (i % j))
          (tInt1 (tCons (tOp (rI CDiv fun i j => V.int (i / j)) (tOp (rIxL K) (tVar 0) (tC (V.int 3))) (tC (V.int 19))) tNil))
          (tVar 1))))
theorem take_tail {K : PySem.W.Frag} {Q : VK} {S : Addr} {limit : Int} {p : Addr} {is : List Int} {pos : Nat} {cell mix : Int} {v2 : Option V} {H : Hp} (h0 : 0 < limit) (h1 : limit ≤ 1000)
    (e1 : H S = some (.lst [.ref p, .int pos, .int cell, .int mix])) (e2 : p ≠ S) (e3 : H p = some (.lst (is.map V.int))) (e4 : is.length ≤ 1000) (e5 : pos ≤ is.length) (e6 : 0 ≤ cell)
    (k : ∀ r H', 0 ≤ r → r < limit → hide S H' = hide S H → StOk H' S p → Q (.int r) H') : takeTail K { nx := fun _ H' => Q .non H', rt := Q } [some (.ref S), some (.int limit), v2, none] H := by
  refine ⟨_, rfl, S, _, _, _, rfl, rfl, SqL.of e1, rfl, _, _, rfl, rfl, _, rfl, ?_⟩
  by_cases c : 0 < cell
  · rw [decide_eq_true c]
    refine iteT ⟨_, rfl, S, _, _, _, rfl, rfl, SqL.of e1, rfl, .inl ⟨_, rfl, _, rfl, _, _, rfl, rfl, h0, ?_⟩⟩
    refine ⟨_, rfl, S, _, _, _, rfl, rfl, SqL.of e1, rfl, _, rfl, _, _, rfl, rfl, ⟨h0, by omega⟩, _, rfl, S, _, 2, 2, rfl, rfl, e1, rfl, ?_⟩
    refine ⟨_, rfl, k _ _ (Int.emod_nonneg _ (by omega)) (Int.emod_lt_of_pos _ h0) hide_upd_self ⟨is, pos, cell / limit, mix, upd_same, e2, ?_, e4, e5, ?_⟩⟩
    · rw [upd_ne e2]
      exact e3
    · exact Int.ediv_nonneg e6 (by omega)
  · rw [decide_eq_false c]
    refine iteF ⟨_, rfl, S, _, _, _, rfl, rfl, SqL.of e1, rfl, _, _, rfl, rfl, .inr ⟨by decide, by decide⟩, _, _, rfl, rfl, .inl ⟨_, rfl, _, _, rfl, rfl, (by show (0 : Int) < 2147483647; decide), _, rfl, S, _, 3, 3, rfl, rfl, e1, rfl, ?_⟩⟩
    have e1' : ∀ m, (upd H S (.lst ([V.ref p, .int pos, .int cell, .int mix].set 3 m))) S = some (.lst [V.ref p, .int pos, .int cell, m]) := fun m => upd_same
    refine ⟨_, rfl, S, _, _, _, rfl, rfl, SqL.of (e1' _), rfl, _, _, rfl, rfl, ⟨by decide, by decide⟩, .inl ⟨_, rfl, _, rfl, _, _, rfl, rfl, h0, ?_⟩⟩
    refine k _ _ (Int.emod_nonneg _ (by omega)) (Int.emod_lt_of_pos _ h0) hide_upd_self ⟨is, pos, cell, _, e1' _, e2, ?_, e4, e5, e6⟩
    rw [upd_ne e2]
    exact e3
section
variable {P : Program} {w : World} {K : PySem.W.Frag} {mg : Str → Option Value} {base : Heap} {ad : Nat → Addr} {fd : Nat → FuncData}
theorem ok__law_take (T : Txt K mg ad fd) : FnOk P w K mg base CX0 1 (ad 48) (fd 48) ["_law_s", "_law_limit"] spTake := by
  refine T.F__law_take.ok sc__law_take (fun vs H Q E h => ?_) (fun cdv A outer s H vs Q E hr h => ?_)
  · obtain ⟨S, p, limit, rfl, _⟩ := h
    rfl
  · obtain ⟨S, p, limit, rfl, st, h0, h1, k⟩ := h
    refine ⟨_, (pss_cons (ps_if (PW.pt (pw_and (pt_cmpR op_eq (pe_ix (ixL K) (pv 0) pe_int (fun _ _ => rfl)) pe_int (nomark _)) (pw_and1 (pt_cmpR op_lt (pe_ix (ixL K) (pv 0) pe_int (fun _ _ => rfl)) (pe_callB (lenS K) (by rfl) T.g_len (by decide +kernel) (pa_cons (pe_ix (ixL K) (pv 0) pe_int (fun _ _ => rfl)) pa_nil)) (nomark _))))) (pss_cons (ps_set (i := 2) sc__law_take.nd rfl (Or.inl rfl) (pe_callB call_abs (by rfl) T.g_abs (by decide +kernel) (pa_cons (pe_ix (ixL K) (pe_ix (ixL K) (pv 0) pe_int (fun _ _ => rfl)) (pe_ix (ixL K) (pv 0) pe_int (fun _ _ => rfl)) (fun _ _ => rfl)) pa_nil)))
  (pss_cons (ps_asg (pe_op op_mod (pe_callTy call_int1 (by rfl) T.g_int (by decide +kernel) (pa_cons (pe_op op_add (pe_op op_add (pe_op op_mul (pe_ix (ixL K) (pv 0) pe_int (fun _ _ => rfl)) pe_int) (pe_op op_mul (pv 2) pe_int)) (pe_callTy call_int1 (by rfl) T.g_int (by decide +kernel) (pa_cons (pe_cmpR op_gt (pv 2) (pe_ix (ixL K) (pe_ix (ixL K) (pv 0) pe_int (fun _ _ => rfl)) (pe_ix (ixL K) (pv 0) pe_int (fun _ _ => rfl)) (fun _ _ => rfl)) (nomark _)) pa_nil))) pa_nil)) pe_int) (pg_sub (pv 0) pe_int set_list))
  (pss_cons (ps_asg (pe_op op_add (pe_ix (ixL K) (pv 0) pe_int (fun _ _ => rfl)) pe_int) (pg_sub (pv 0) pe_int set_list))
  (pss_one (ps_if (pt_cmpR op_ge (pv 2) (pe_op op_pow pe_int pe_int) (nomark _)) (pss_one (ps_asg (pe_op op_mod (pe_callTy call_int1 (by rfl) T.g_int (by decide +kernel) (pa_cons (pv 2) pa_nil)) (pe_op op_pow pe_int pe_int)) (pg_sub (pv 0) pe_int set_list)))
  pss_nil)))))
  pss_nil)
  (pss_cons (ps_if (pt_cmpR op_gt (pe_ix (ixL K) (pv 0) pe_int (fun _ _ => rfl)) pe_int (nomark _)) (pss_cons (ps_set (i := 3) sc__law_take.nd rfl (Or.inl rfl) (pe_op op_mod (pe_callTy call_int1 (by rfl) T.g_int (by decide +kernel) (pa_cons (pe_ix (ixL K) (pv 0) pe_int (fun _ _ => rfl)) pa_nil)) (pv 1)))
  (pss_cons (ps_asg (pe_op op_fdiv (pe_ix (ixL K) (pv 0) pe_int (fun _ _ => rfl)) (pv 1)) (pg_sub (pv 0) pe_int set_list))
  (pss_one (ps_ret (pv 3)))))
  pss_nil)
  (pss_cons (ps_asg (pe_op op_mod (pe_callTy call_int1 (by rfl) T.g_int (by decide +kernel) (pa_cons (pe_op op_add (pe_op op_mul (pe_ix (ixL K) (pv 0) pe_int (fun _ _ => rfl)) pe_int) pe_int) pa_nil)) pe_int) (pg_sub (pv 0) pe_int set_list))
  (pss_one (ps_ret (pe_op op_mod (pe_callTy call_int1 (by rfl) T.g_int (by decide +kernel) (pa_cons (pe_op op_fdiv (pe_ix (ixL K) (pv 0) pe_int (fun _ _ => rfl)) pe_int) pa_nil)) (pv 1))))))), ?_⟩
    obtain ⟨is, pos, cell, mix, e1, e2, e3, e4, e5, e6⟩ := st.ex
    have hl : ∀ {H1 : Hp}, H1 p = some (.lst (is.map V.int)) → SqL K H1 p (is.map V.int) := fun h => SqL.of h
    refine ⟨_, rfl, S, _, _, _, rfl, rfl, SqL.of e1, rfl, rfl, _, rfl, ?_⟩
    have fin : ∀ {H1 : Hp} {pos' : Nat} {cell' mix' : Int} {v2 : Option V}, hide S H1 = hide S H → H1 S = some (.lst [.ref p, .int pos', .int cell', .int mix']) → pos' ≤ is.length → 0 ≤ cell' →
        takeTail K { nx := fun _ H' => Q .non H', rt := Q } [some (.ref S), some (.int limit), v2, none] H1 := fun {H1 pos' cell' mix' v2} hh f1 f5 f6 => by
      have f3 : H1 p = some (.lst (is.map V.int)) := by
        have := congrFun hh p
        rw [hide_ne e2, hide_ne e2] at this
        rw [this]
        exact e3
      exact take_tail h0 h1 f1 e2 f3 e4 f5 f6 fun r H' r0 r1 hh2 st' => k r H' r0 r1 ⟨by rw [hh2, hh]; exact Same.refl _, st'⟩
    by_cases c : cell = 0
    rotate_left
    · rw [decide_eq_false (show ¬ V.int cell = V.int 0 from fun z => c (by injection z))]
      exact iteF (iteF (fin rfl e1 e5 e6))
    rw [decide_eq_true (show V.int cell = V.int 0 by rw [c])]
    refine iteT ⟨_, rfl, S, _, _, _, rfl, rfl, SqL.of e1, rfl, _, rfl, S, _, _, _, rfl, rfl, SqL.of e1, rfl, p, _, rfl, .inl (SqL.of e3), _, _, rfl, rfl, _, rfl, ?_⟩
    rw [List.length_map]
    by_cases c2 : pos < is.length
    rotate_left
    · rw [decide_eq_false (by omega)]
      exact iteF (fin rfl e1 e5 e6)
    rw [decide_eq_true (show (pos : Int) < (is.length : Nat) by omega)]
    have hat : (is.map V.int)[pos]? = some (V.int is[pos]) := by
      rw [List.getElem?_map, List.getElem?_eq_getElem c2]
      rfl
    refine iteT ⟨_, rfl, S, _, _, _, rfl, rfl, SqL.of e1, rfl, _, rfl, S, _, _, _, rfl, rfl, SqL.of e1, rfl, p, _, _, _, rfl, rfl, SqL.of e3, atI_nat hat, _, rfl, ?_⟩
    refine ⟨_, rfl, S, _, _, _, rfl, rfl, SqL.of e1, rfl, _, _, rfl, rfl, .inr ⟨by decide, by decide⟩, _, rfl, _, _, rfl, rfl, .inr ⟨by decide, by decide⟩, _, _, rfl, rfl,
      _, rfl, _, rfl, S, _, _, _, rfl, rfl, SqL.of e1, rfl, _, rfl, S, _, _, _, rfl, rfl, SqL.of e1, rfl, p, _, _, _, rfl, rfl, SqL.of e3, atI_nat hat, _, _, rfl, rfl, .inr ⟨_, rfl, _, _, rfl, rfl, .inl ⟨_, rfl, _, _, rfl, rfl, (by show (0 : Int) < 1000000007; decide), _, rfl, S, _, 3, 3, rfl, rfl, e1, rfl, ?_⟩⟩⟩
    have f1 : ∀ m, (upd H S (.lst ([V.ref p, .int pos, .int cell, .int mix].set 3 m))) S = some (.lst [V.ref p, .int pos, .int cell, m]) := fun m => upd_same
    refine ⟨_, rfl, S, _, _, _, rfl, rfl, SqL.of (f1 _), rfl, _, _, rfl, rfl, _, rfl, S, _, 1, 1, rfl, rfl, f1 _, rfl, ?_⟩
    have f2 : ∀ m q x, (upd (upd H S x) S (.lst ([V.ref p, .int pos, .int cell, m].set 1 q))) S = some (.lst [V.ref p, q, .int cell, m]) := fun m q x => upd_same
    have hh2 : ∀ x y, hide S (upd (upd H S x) S y) = hide S H := fun x y => by rw [hide_upd_self, hide_upd_self]
    refine ⟨_, rfl, _, _, rfl, rfl, ⟨by decide, by decide, by decide⟩, _, _, rfl, rfl, _, rfl, ?_⟩
    by_cases c3 : (10 : Int) ^ (18 : Int).toNat ≤ (if is[pos] < 0 then -is[pos] else is[pos])
    · rw [decide_eq_true c3]
      refine iteT ⟨_, rfl, .inl ⟨_, rfl, _, _, rfl, rfl, ⟨by decide, by decide, by decide⟩, _, _, rfl, rfl, (by show (0 : Int) < 10 ^ (60 : Int).toNat; decide), _, rfl, S, _, 2, 2, rfl, rfl, f2 _ _ _, rfl, ?_⟩⟩
      refine fin (pos' := pos + 1) ?_ upd_same (by omega) (Int.emod_nonneg _ (by decide))
      rw [hide_upd_self]
      exact hh2 _ _
    · rw [decide_eq_false c3]
      exact iteF (fin (pos' := pos + 1) (hh2 _ _) (f2 _ _ _) (by omega) e6)
end
end LK
namespace LK
open PySem PySem.Spec PyProof.Rows L2
def rgI (n : Nat) : List Int := (List.range n).map fun i : Nat => (i : Int)
theorem rgI_length (n : Nat) : (rgI n).length = n := by unfold rgI; rw [List.length_map, List.length_range]
theorem rgV_rgI (n : Int) : rgV 0 n = (rgI n.toNat).map V.int := by
  unfold rgV rgI
  rw [List.map_map, Int.sub_zero]
  refine List.map_congr_left fun i _ => ?_
  show V.int (0 + (i : Nat)) = V.int (i : Nat)
  rw [Int.zero_add]
theorem eraseIdx_mapV : ∀ (ls : List Int) (k : Nat), (ls.map V.int).eraseIdx k = (ls.eraseIdx k).map V.int
  | [], k => by simp
  | a :: l, 0 => rfl
  | a :: l, k + 1 => by
    have ih := eraseIdx_mapV l k
    show V.int a :: (l.map V.int).eraseIdx k = V.int a :: (l.eraseIdx k).map V.int
    rw [ih]
theorem erase_perm : ∀ {ls : List Int} {k : Nat} {x : Int}, ls[k]? = some x → (x :: ls.eraseIdx k).Perm ls
  | [], k, x, h => by simp at h
  | a :: l, 0, x, h => by
    have e : a = x := by simpa using h
    subst e
    exact List.Perm.refl _
  | a :: l, k + 1, x, h => by
    have ih := erase_perm (ls := l) (k := k) (x := x) (by simpa using h)
    exact (List.Perm.swap a x _).trans (ih.cons a)
theorem perm_move {ls ln base : List Int} {k : Nat} {x : Int} (h : (ls ++ ln).Perm base) (e : ls[k]? = some x) : (ls.eraseIdx k ++ (ln ++ [x])).Perm base := by
  have h1 := erase_perm e
  refine List.Perm.trans ?_ h
  refine List.Perm.trans ?_ (h1.append_right ln)
  rw [List.cons_append, ← List.append_assoc]
  exact List.perm_append_singleton _ _
section
variable {P : Program} {w : World} {K : PySem.W.Frag} {mg : Str → Option Value} {base : Heap} {ad : Nat → Addr} {fd : Nat → FuncData}
def spDealt : Sp := fun vs H Q _ => ∃ (S p : Addr) (n : Int), vs = [.ref S, .int n] ∧ StOk H S p ∧ 0 ≤ n ∧ n ≤ 1000 ∧ ∀ B line H', H B = none → List.Perm line (rgI n.toNat) → Mv S p H H' → H' B = some (.lst (line.map V.int)) → Q (.ref B) H'
theorem ok__law_dealt (T : Txt K mg ad fd) : FnOk P w K mg base CX0 2 (ad 51) (fd 51) ["_law_s", "_law_size"] spDealt := by
  refine T.F__law_dealt.ok sc__law_dealt (fun vs H Q E h => ?_) (fun cdv A outer s H vs Q E hr h => ?_)
  · obtain ⟨S, p, n, rfl, _⟩ := h
    rfl
  · obtain ⟨S, p, n, rfl, st, h0, h1, k⟩ := h
    refine ⟨_, (pss_cons (ps_set (i := 2) sc__law_dealt.nd rfl (Or.inl rfl) (pe_listRg rfl rfl T.g_list (prg_1 rfl T.g_range (pv 1))))
  (pss_cons (ps_set (i := 3) sc__law_dealt.nd rfl (Or.inl rfl) (pe_lst pa_nil))
  (pss_cons (ps_for PassesOwn.never rfl (pi_range1 rfl T.g_range (pa_cons (pv 1) pa_nil)) (pg_name (i := 4) (x := "_law_k") sc__law_dealt.nd rfl (Or.inl rfl))
  (pss_one (ps_expr (pe_bmK K PySem.F.plainAttrs_list PySem.F.slot_list_append PySem.F.type_list_append mt_append (pv 3) (pa_cons (pe_bmK K PySem.F.plainAttrs_list PySem.F.slot_list_pop PySem.F.type_list_pop mt_popAt (pv 2) (pa_cons (pe_call (ok__law_take T) (hr.mono (by decide)) rfl T.m__law_take T.F__law_take.kp (b__law_take T) .nil pass0 (pa_cons (pv 0) (pa_cons (pe_callB (lenS K) (by rfl) T.g_len (by decide +kernel) (pa_cons (pv 2) pa_nil)) pa_nil))) pa_nil)) pa_nil)))))
  (pss_one (ps_ret (pv 3)))))), ?_⟩
    refine ⟨_, rfl, n, rfl, RgOk.of_le (by decide) (by omega) (by decide) h0, fun A hA => ⟨(by show 0 ≤ sizeLine; decide), fun B hB0 => ?_⟩⟩
    have hB : H B = none := (same_upd hA).free hB0
    have hAB : A ≠ B := fun e => by rw [← e, upd_same] at hB0; cases hB0
    have hs1 : (1000 : Nat) < sizeLine := by decide
    have aS := free_ne st hA
    have bS := free_ne st hB
    have m0 : Mv S p H (upd (upd H A (.lst (rgV 0 n))) B (.lst [])) := ((Mv.refl st).put st hA).put st hB
    refine ⟨_, rfl, n, rfl, by omega, by omega, for_range (lo := 0) (n := n.toNat) (fun i σ H1 => ∃ (ls ln : List Int) (v4 : Option V), σ = [some (.ref S), some (.int n), some (.ref A), some (.ref B), v4] ∧ Mv S p H H1 ∧ H1 A = some (.lst (ls.map V.int)) ∧ H1 B = some (.lst (ln.map V.int)) ∧ (ls ++ ln).Perm (rgI n.toNat) ∧ ls.length + i = n.toNat)
      ⟨rgI n.toNat, [], none, rfl, m0, by rw [upd_ne hAB, upd_same, rgV_rgI], upd_same, by rw [List.append_nil], by rw [rgI_length]; rfl⟩ (fun i σ H1 hi ⟨ls, ln, v4, e1, mv, hA1, hB1, pm, hl⟩ => ?_) (fun σ H1 ⟨ls, ln, v4, e1, mv, hA1, hB1, pm, hl⟩ => ?_)⟩
    · subst e1
      refine ⟨_, rfl, .inl ⟨rfl, _, SqL.of hB1⟩, _, rfl, .inl ⟨rfl, _, SqL.of hA1⟩, _, rfl, _, rfl, A, _, rfl, .inl (SqL.of hA1), S, p, _, rfl, mv.ok, by rw [List.length_map]; omega, by rw [List.length_map]; omega, fun r H2 r0 r1 mv2 => ?_⟩
      rw [List.length_map] at r1
      obtain ⟨j, rfl⟩ : ∃ j : Nat, r = (j : Int) := ⟨r.toNat, by omega⟩
      have hjl : j < ls.length := by omega
      have hA2 := mv2.get aS hA1
      have hB2 := mv2.get bS hB1
      have lpm := pm.length_eq
      rw [List.length_append, rgI_length] at lpm
      refine ⟨A, ls.map V.int, (j : Int), j, .int ls[j], rfl, rfl, hA2, by omega, by omega, seqIndex_of (by omega) (by rw [List.length_map]; omega), by rw [List.getElem?_map, List.getElem?_eq_getElem hjl]; rfl, ?_⟩
      refine ⟨B, ln.map V.int, .int ls[j], rfl, rfl, by rw [upd_ne hAB.symm]; exact hB2, by rw [List.length_map]; omega, ?_⟩
      refine ⟨ls.eraseIdx j, ln ++ [ls[j]], _, rfl, ((mv.trans mv2).put st hA).put st hB, ?_, ?_, perm_move pm (List.getElem?_eq_getElem hjl), ?_⟩
      · rw [upd_ne hAB, upd_same, eraseIdx_mapV]
      · rw [upd_same, List.map_append]
        rfl
      · rw [List.length_eraseIdx_of_lt hjl]
        omega
    · subst e1
      have : ls = [] := List.eq_nil_of_length_eq_zero (by omega)
      subst this
      exact ⟨_, rfl, k B ln H1 hB pm mv hB1⟩
end
end LK
namespace LK
open PySem PySem.Spec PyProof.Rows L2
theorem areUnlike_below {n : Int} {d : PyData} (e : areUnlike n d = true) : areBelow n d = true := by
  unfold areUnlike at e
  rw [Bool.and_eq_true] at e
  exact e.1
theorem rows_app {rows : List (List Int)} {r : List Int} : (rows ++ [r]).map dTup = rows.map dTup ++ [dTup r] := by simp
theorem RpAll.take {K : PySem.W.Frag} {H : Hp} : ∀ {ds : List PyData} {vs : List V} (n : Nat), RpAll K H vs ds → RpAll K H (vs.take n) (ds.take n)
  | _, _, 0, _ => .nil
  | [], _, n + 1, h => by cases h; exact .nil
  | d :: ds, _, n + 1, h => by
    cases h with
    | cons a b => exact .cons a (RpAll.take n b)
theorem RpAll.drop {K : PySem.W.Frag} {H : Hp} : ∀ {ds : List PyData} {vs : List V} (n : Nat), RpAll K H vs ds → RpAll K H (vs.drop n) (ds.drop n)
  | _, _, 0, h => h
  | [], _, n + 1, h => by cases h; exact .nil
  | d :: ds, _, n + 1, h => by
    cases h with
    | cons a b => exact RpAll.drop n b
theorem cut_take {xs : List V} {z : Int} (h0 : 0 ≤ z) (h1 : z ≤ xs.length) : cutV xs none (some z) = xs.take z.toNat := by
  unfold cutV
  have e1 : HT.sIx xs.length 0 none = 0 := rfl
  have e2 : HT.sIx xs.length xs.length (some z) = z.toNat := by
    unfold HT.sIx
    simp
    split <;> omega
  rw [e1, e2]
  simp
theorem cut_drop {xs : List V} {z : Int} (h0 : 0 ≤ z) (h1 : z ≤ xs.length) : cutV xs (some z) none = xs.drop z.toNat := by
  unfold cutV
  have e1 : HT.sIx xs.length 0 (some z) = z.toNat := by
    unfold HT.sIx
    simp
    split <;> omega
  have e2 : HT.sIx xs.length xs.length none = xs.length := rfl
  rw [e1, e2]
  rw [List.take_of_length_le (by rw [List.length_drop]; omega)]
section
variable {P : Program} {w : World} {K : PySem.W.Frag} {mg : Str → Option Value} {base : Heap} {ad : Nat → Addr} {fd : Nat → FuncData}
theorem ok_is_row (T : Txt K mg ad fd) : FnOk P w K mg base CX0 6 (ad 15) (fd 15) ["book", "thing"] (spBB K isRow) := by
  refine T.F_is_row.ok sc_is_row (fun vs H Q E h => ?_) (fun cdv A outer s H vs Q E hr h => ?_)
  · obtain ⟨v, u, d, n, rows, rfl, _⟩ := h
    rfl
  · obtain ⟨v, u, d, n, rows, rfl, h, hu, k⟩ := h
    obtain ⟨b, L, xs, rfl, hb, hL, hz, hr2⟩ := rp_book h
    refine ⟨_, (pss_cons (ps_if (PW.pt (pw_or (pt_not (pt_val (pe_call (ok_is_lot T) (hr.mono (by decide)) rfl T.m_is_lot T.F_is_lot.kp (b_is_lot T) .nil pass0 (pa_cons (pe_ix (ixT K) (pv 0) pe_int (fun _ _ => rfl)) (pa_cons (pv 1) pa_nil))))) (pw_or1 (pt_cmpR op_lt (pe_callB (lenS K) (by rfl) T.g_len (by decide +kernel) (pa_cons (pv 1) pa_nil)) pe_int (nomark _))))) (pss_one (ps_ret pe_bl))
  pss_nil)
  (pss_one (ps_ret (pe_callB (allR K) (by rfl) T.g_all (by decide +kernel) (pa_cons (pe_lc (own := [("k", 2)]) (g := gName 2) rfl sc_is_row.nd (pi_range2 rfl T.g_range (pa_cons pe_int (pa_cons (pe_callB (lenS K) (by rfl) T.g_len (by decide +kernel) (pa_cons (pv 1) pa_nil)) pa_nil))) (blkOk_by (N := ["book", "thing", "k"]) (sc := defScope s_is_row) (by decide +kernel)) (fun _ _ _ _ _ => (pg_name (i := 2) (x := "k") sc_is_row.nd rfl (Or.inl rfl))) (fun _ _ _ _ _ => pts_nil) (fun _ _ _ _ _ => (pe_call (ok_are_tied T) (hr.mono (by decide)) rfl T.m_are_tied T.F_are_tied.kp (b_are_tied T) .nil pass0 (pa_cons (pv 0) (pa_cons (pe_ix (ixT K) (pv 1) (pe_op op_sub (pv 2) pe_int) (fun _ _ => rfl)) (pa_cons (pe_ix (ixT K) (pv 1) (pv 2) (fun _ _ => rfl)) pa_nil)))))) pa_nil))))), ?_⟩
    refine ⟨_, rfl, _, _, _, _, rfl, rfl, hb, rfl, _, rfl, n, u, d, rfl, hu, fun H1 s1 => ⟨_, rfl, ?_⟩⟩
    have k' : ∀ b H', Same H H' → b = isRow n rows d → Q (.bl b) H' := fun b H' s e => by rw [e]; exact k _ s
    cases e : isLot n d with
    | false => exact iteT (k' _ _ s1 (by simp [isRow, e]))
    | true =>
      have e2 : areBelow n d = true := by
        unfold isLot at e
        rw [Bool.and_eq_true] at e
        exact e.1
      have ed := areBelow_tup e2
      rw [ed] at hu
      obtain ⟨a, rfl, ta⟩ := hu.tupI
      have hln := ta.2
      have ta1 := ta.same s1
      refine iteF ⟨_, rfl, _, _, rfl, .inr ta1.1, _, _, rfl, rfl, _, rfl, ?_⟩
      rw [List.length_map]
      by_cases c : (dInts d).length < 2
      · rw [decide_eq_true (show (((dInts d).length : Nat) : Int) < 2 by omega)]
        exact iteT (k' _ _ s1 (by simp [isRow, e]; intro z; omega))
      · rw [decide_eq_false (show ¬ (((dInts d).length : Nat) : Int) < 2 by omega)]
        have ez : (((dInts d).length : Nat) - (1 : Int)).toNat = (dInts d).length - 1 := by omega
        refine iteF ⟨_, rfl, _, _, rfl, .inr ta1.1, _, _, rfl, ⟨by decide, by decide, by rw [List.length_map]; omega, by rw [List.length_map]; omega⟩, fun D hD => ?_⟩
        rw [List.length_map, ez]
        refine lcR (K := K) (lo := 1) (n := (dInts d).length - 1) (fun _ => true) (fun j => .bool (tiedB rows ((dInts d).getD j 0) ((dInts d).getD (j + 1) 0))) hD (by omega) (fun _ _ _ => rfl) (fun i H2 hi s2 Q1 Q2 k1 k2 => ?_) (fun ys H2 s2 hy r => ?_)
        · have g1 : ((dInts d).map V.int)[i]? = some (.int ((dInts d).getD i 0)) := mapD (by omega)
          have g2 : ((dInts d).map V.int)[i + 1]? = some (.int ((dInts d).getD (i + 1) 0)) := mapD (by omega)
          have t2 := ta1.same s2
          refine ⟨rfl, _, rfl, _, rfl, _, rfl, _, _, rfl, rfl, _, _, _, _, rfl, rfl, t2.1, at_of (j := i) (by omega) g1, _, rfl, _, rfl, _, _, _, _, rfl, rfl, t2.1, at_of (j := i + 1) (by omega) g2, _, _, _, n, rows, rfl, h.same (s1.trans s2), fun H3 s3 => ?_⟩
          exact k1 rfl _ _ s3 (.bl _)
        · rw [filter_true] at r
          have e4 := RpAll.ofBools (bs := (List.range ((dInts d).length - 1)).map fun j => tiedB rows ((dInts d).getD j 0) ((dInts d).getD (j + 1) 0)) (by rw [List.map_map]; exact r)
          subst e4
          refine ⟨_, _, rfl, SqL.of hy, k' _ _ (s1.trans s2) ?_⟩
          rw [tiedAll_all]
          unfold isRow
          rw [e, decide_eq_true (show 2 ≤ (dInts d).length by omega)]
          rfl
theorem ok_is_book (T : Txt K mg ad fd) : FnOk P w K mg base CX0 7 (ad 11) (fd 11) ["thing"] (spB K isBook) := by
  refine T.F_is_book.ok sc_is_book (fun vs H Q E h => ?_) (fun cdv A outer s H vs Q E hr h => ?_)
  · obtain ⟨v, d, rfl, _⟩ := h
    rfl
  · obtain ⟨v, d, rfl, h, k⟩ := h
    refine ⟨_, (pss_cons (ps_if (PW.pt (pw_or (pt_not (pt_val (pe_callB (isiR K) (by rfl) T.g_isinstance (by decide +kernel) (pa_cons (pv 0) (pa_cons (pe_bltn (v := .ty "tuple") (by rfl) T.g_tuple (by decide +kernel) rfl) pa_nil))))) (pw_or1 (pt_cmpR op_ne (pe_callB (lenS K) (by rfl) T.g_len (by decide +kernel) (pa_cons (pv 0) pa_nil)) pe_int (nomark _))))) (pss_one (ps_ret pe_bl))
  pss_nil)
  (pss_cons (ps_asg (pv 0) (pg_tup rfl (pgs_cons (pg_name (i := 1) (x := "size") sc_is_book.nd rfl (Or.inr rfl)) (pgs_cons (pg_name (i := 2) (x := "lists") sc_is_book.nd rfl (Or.inl rfl)) pgs_nil))))
  (pss_cons (ps_if (PW.pt (pw_or (pt_not (pt_val (pe_call (ok_is_integer T) (hr.mono (by decide)) rfl T.m_is_integer T.F_is_integer.kp (b_is_integer T) .nil pass0 (pa_cons (pv 1) pa_nil)))) (pw_or (pt_cmpR op_lt (pv 1) pe_int (nomark _)) (pw_or1 (pt_not (pt_val (pe_callB (isiR K) (by rfl) T.g_isinstance (by decide +kernel) (pa_cons (pv 2) (pa_cons (pe_bltn (v := .ty "tuple") (by rfl) T.g_tuple (by decide +kernel) rfl) pa_nil))))))))) (pss_one (ps_ret pe_bl))
  pss_nil)
  (pss_one (ps_ret (pe_callB (allR K) (by rfl) T.g_all (by decide +kernel) (pa_cons (pe_lc (own := [("things", 3)]) (g := gName 3) rfl sc_is_book.nd (piT K (pv 2)) (blkOk_by (N := ["thing", "size", "lists", "things"]) (sc := defScope s_is_book) (by decide +kernel)) (fun _ _ _ _ _ => (pg_name (i := 3) (x := "things") sc_is_book.nd rfl (Or.inl rfl))) (fun _ _ _ _ _ => pts_nil) (fun _ _ _ _ _ => (pe_call (ok_is_listed T) (hr.mono (by decide)) rfl T.m_is_listed T.F_is_listed.kp (b_is_listed T) .nil pass0 (pa_cons (pv 1) (pa_cons (pv 3) pa_nil))))) pa_nil))))))), ?_⟩
    have k' : ∀ b H', Same H H' → b = isBook d → Q (.bl b) H' := fun b H' s e => by rw [e]; exact k _ s
    refine ⟨v, rfl, v, .ty "tuple", _, _, _, rfl, .ty _, h.ty, isi_tuple h, _, rfl, ?_⟩
    cases h with
    | @tup a xs ds st l r =>
      have ll := r.length
      refine iteF ⟨_, rfl, _, _, rfl, .inr st, rfl, _, rfl, ?_⟩
      by_cases c : xs.length = 2
      rotate_left
      · have c1 : (!decide (V.int (xs.length : Nat) = V.int 2)) = true := by
          rw [decide_eq_false (fun z => c (by injection z with z; omega))]
          rfl
        rw [c1]
        exact iteT (k' _ _ (Same.refl _) (isBook_len (by omega)))
      have c1 : (!decide (V.int (xs.length : Nat) = V.int 2)) = false := by
        rw [decide_eq_true (by rw [c]; rfl)]
        rfl
      rw [c1]
      obtain ⟨x, y, d1, d2, ex, ed, r1, r2⟩ := r.len2 c
      subst ex ed
      refine iteF ⟨_, rfl, a, _, rfl, st, rfl, _, _, rfl, _, _, rfl, rfl, ?_⟩
      refine ⟨_, rfl, x, d1, rfl, r1, _, rfl, ?_⟩
      cases r1 with
      | int n =>
        refine iteF ⟨_, rfl, _, _, rfl, rfl, _, rfl, ?_⟩
        by_cases c2 : n < 1
        · rw [decide_eq_true c2]
          exact iteT (iteT (k' _ _ (Same.refl _) (isBook_low c2)))
        · rw [decide_eq_false c2]
          refine iteF ⟨_, rfl, y, .ty "tuple", _, _, _, rfl, .ty _, r2.ty, isi_tuple r2, _, rfl, ?_⟩
          cases r2 with
          | @tup L ys ls s2 l2 r2 =>
            refine iteF ⟨_, rfl, L, rfl, ⟨_, s2⟩, fun D hD => ?_⟩
            refine lcT (K := K) (xs := ys) (fun _ => true) (fun j => .bool (isListed n (ls.getD j .none))) hD s2 l2 (fun _ _ _ => rfl) (fun i x H1 hi s1 Q1 Q2 k1 k2 => ?_) (fun zs H1 s1 hy r3 => ?_)
            · obtain ⟨d, hd, rd⟩ := r2.get hi
              have ed : ls.getD i .none = d := by rw [List.getD_eq_getElem?_getD, hd]; rfl
              rw [ed] at k1
              exact ⟨rfl, _, rfl, _, rfl, n, x, d, rfl, rd.same s1, fun H2 s2 => k1 rfl _ _ s2 (.bl _)⟩
            · rw [filter_true] at r3
              have e := RpAll.ofBools (bs := (List.range ys.length).map fun j => isListed n (ls.getD j .none)) (by rw [List.map_map]; exact r3)
              subst e
              refine ⟨_, _, rfl, SqL.of hy, k' _ _ s1 ?_⟩
              rw [r2.length, all_range (isListed n) .none ls]
              exact isBook_in c2
          | _ => exact iteT (k' _ _ (Same.refl _) (isBook_notTup (fun i z => by cases z)))
      | _ => exact iteT (iteT (k' _ _ (Same.refl _) (isBook_notInt (fun i z => by cases z))))
    | _ => exact iteT (k' _ _ (Same.refl _) rfl)
end
end LK
namespace LK
open PySem PySem.Spec PyProof.Rows L2
/-- rows as a first book has them -/
def FirstRow (n : Int) (r : List Int) : Prop := r.Nodup ∧ 2 ≤ r.length ∧ r.length ≤ 1000 ∧ ∀ x ∈ r, 0 ≤ x ∧ x < n
theorem cut_takeZ {xs : List V} {z : Int} (h0 : 0 ≤ z) : cutV xs none (some z) = xs.take z.toNat := by
  unfold cutV
  have e1 : HT.sIx xs.length 0 none = 0 := rfl
  have e2 : HT.sIx xs.length xs.length (some z) = min z.toNat xs.length := by
    show (if z < 0 then (z + (xs.length : Nat)).toNat else min z.toNat xs.length) = _
    rw [if_neg (by omega)]
  rw [e1, e2]
  simp
theorem drawn {l : List Int} {lo hi r : Int} (h0 : 0 ≤ r) (h1 : r < (l.length : Nat)) (h : ∀ x ∈ l, lo ≤ x ∧ x ≤ hi) : ∃ n, atI (l.map V.int) r = some (.int n) ∧ lo ≤ n ∧ n ≤ hi := by
  have hj : r.toNat < l.length := by omega
  refine ⟨l[r.toNat], at_of (j := r.toNat) (by omega) ?_, h _ (List.getElem_mem hj)⟩
  rw [List.getElem?_map, List.getElem?_eq_getElem hj]
  rfl
theorem rgI_nodup (n : Nat) : (rgI n).Nodup := by
  unfold rgI
  refine List.Pairwise.map _ ?_ (List.pairwise_lt_range (n := n))
  intro a b h e
  omega
theorem rgI_mem {n : Nat} {x : Int} : x ∈ rgI n ↔ 0 ≤ x ∧ x < n := by
  unfold rgI
  rw [List.mem_map]
  constructor
  · rintro ⟨i, hi, rfl⟩
    have := List.mem_range.mp hi
    omega
  · rintro ⟨h0, h1⟩
    exact ⟨x.toNat, List.mem_range.mpr (by omega), by omega⟩
theorem firstRow_take {n : Int} {line : List Int} {k : Nat} (h : line.Perm (rgI n.toNat)) (hn : 1 < n) (hn2 : n ≤ 1000) (hk : 2 ≤ k) : FirstRow n (line.take k) := by
  have hl := h.length_eq
  rw [rgI_length] at hl
  have nd : line.Nodup := (List.Perm.nodup_iff h).mpr (rgI_nodup _)
  refine ⟨nd.sublist (List.take_sublist _ _), ?_, ?_, fun x hx => ?_⟩
  · rw [List.length_take]
    omega
  · rw [List.length_take]
    omega
  · have := rgI_mem.mp (h.mem_iff.mp (List.mem_of_mem_take hx))
    omega
theorem firstRow_rev {n : Int} {r : List Int} (h : FirstRow n r) : FirstRow n r.reverse :=
  ⟨(List.Perm.nodup_iff (List.reverse_perm r)).mpr h.1, by rw [List.length_reverse]; exact h.2.1, by rw [List.length_reverse]; exact h.2.2.1, fun x hx => h.2.2.2 x (List.mem_reverse.mp hx)⟩
section
variable {P : Program} {w : World} {K : PySem.W.Frag} {mg : Str → Option Value} {base : Heap} {ad : Nat → Addr} {fd : Nat → FuncData}
def spFirst (K : PySem.W.Frag) : Sp := fun vs H Q _ => ∃ (S p : Addr), vs = [.ref S] ∧ StOk H S p ∧
  ∀ (t : Addr) (n : Int) (rows : List (List Int)) (H' : Hp), 1 ≤ n → n ≤ 6 → rows.length ≤ 5 → (∀ r ∈ rows, FirstRow n r) → Mv S p H H' → Rp K (hide S H') (.ref t) (.tuple [.int n, .list (rows.map dLst)]) → Q (.ref t) H'
theorem ok__law_first (T : Txt K mg ad fd) : FnOk P w K mg base CX0 3 (ad 52) (fd 52) ["_law_s"] (spFirst K) := by
  refine T.F__law_first.ok sc__law_first (fun vs H Q E h => ?_) (fun cdv A outer s H vs Q E hr h => ?_)
  · obtain ⟨S, p, rfl, _⟩ := h
    rfl
  · obtain ⟨S, p, rfl, st, k⟩ := h
    refine ⟨_, (pss_cons (ps_set (i := 1) sc__law_first.nd rfl (Or.inl rfl) (pe_ix (ixL K) (pe_lst (pa_cons pe_int (pa_cons pe_int (pa_cons pe_int (pa_cons pe_int (pa_cons pe_int (pa_cons pe_int (pa_cons pe_int (pa_cons pe_int (pa_cons pe_int (pa_cons pe_int pa_nil))))))))))) (pe_call (ok__law_take T) (hr.mono (by decide)) rfl T.m__law_take T.F__law_take.kp (b__law_take T) .nil pass0 (pa_cons (pv 0) (pa_cons pe_int pa_nil))) (fun _ _ => rfl)))
  (pss_cons (ps_set (i := 2) sc__law_first.nd rfl (Or.inl rfl) (pe_lst pa_nil))
  (pss_cons (ps_for PassesOwn.never rfl (pi_range1 rfl T.g_range (pa_cons (pe_op op_mul (pe_ix (ixL K) (pe_lst (pa_cons pe_int (pa_cons pe_int (pa_cons pe_int (pa_cons pe_int (pa_cons pe_int (pa_cons pe_int (pa_cons pe_int pa_nil)))))))) (pe_call (ok__law_take T) (hr.mono (by decide)) rfl T.m__law_take T.F__law_take.kp (b__law_take T) .nil pass0 (pa_cons (pv 0) (pa_cons pe_int pa_nil))) (fun _ _ => rfl)) (pe_callTy call_int1 (by rfl) T.g_int (by decide +kernel) (pa_cons (pe_cmpR op_gt (pv 1) pe_int (nomark _)) pa_nil))) pa_nil)) (pg_name (i := 3) (x := "_law_k") sc__law_first.nd rfl (Or.inl rfl))
  (pss_one (ps_expr (pe_bmK K PySem.F.plainAttrs_list PySem.F.slot_list_append PySem.F.type_list_append mt_append (pv 2) (pa_cons (pe_slice (slL K) (pe_call (ok__law_dealt T) (hr.mono (by decide)) rfl T.m__law_dealt T.F__law_dealt.kp (b__law_dealt T) .nil pass0 (pa_cons (pv 0) (pa_cons (pv 1) pa_nil))) po_none (po_some (pe_op op_add pe_int (pe_call (ok__law_take T) (hr.mono (by decide)) rfl T.m__law_take T.F__law_take.kp (b__law_take T) .nil pass0 (pa_cons (pv 0) (pa_cons pe_int pa_nil)))))) pa_nil)))))
  (pss_cons (ps_if (PW.pt (pw_and (pt_cmpR op_gt (pe_callB (lenS K) (by rfl) T.g_len (by decide +kernel) (pa_cons (pv 2) pa_nil)) pe_int (nomark _)) (pw_and1 (pt_cmpR op_eq (pe_call (ok__law_take T) (hr.mono (by decide)) rfl T.m__law_take T.F__law_take.kp (b__law_take T) .nil pass0 (pa_cons (pv 0) (pa_cons pe_int pa_nil))) pe_int (nomark _))))) (pss_one (ps_set (i := 2) sc__law_first.nd rfl (Or.inl rfl) (pe_op op_cat (pe_slice (slL K) (pv 2) po_none (po_some pe_int)) (pe_lst (pa_cons (pe_revL (pe_ix (ixL K) (pv 2) pe_int (fun _ _ => rfl))) pa_nil)))))
  pss_nil)
  (pss_one (ps_ret (pe_tup (pa_cons (pv 1) (pa_cons (pv 2) pa_nil))))))))), ?_⟩
    refine ⟨(by show 10 ≤ sizeLine; decide), fun A0 hA0 => ?_⟩
    have m0 := (Mv.refl st).put (o := .lst [V.int 5, .int 4, .int 6, .int 3, .int 5, .int 2, .int 4, .int 6, .int 1, .int 5]) st hA0
    refine ⟨_, rfl, S, p, 10, rfl, m0.ok, by decide, by decide, fun r H1 r0 r1 m1 => ?_⟩
    have aS := free_ne st hA0
    obtain ⟨n, hn, n0, n1⟩ := drawn (l := [5, 4, 6, 3, 5, 2, 4, 6, 1, 5]) (lo := 1) (hi := 6) r0 r1 (by decide)
    refine ⟨A0, _, _, _, rfl, rfl, SqL.of (m1.get aS upd_same), hn, ?_⟩
    have mv1 := m0.trans m1
    refine ⟨(by show 0 ≤ sizeLine; decide), fun R hR1 => ?_⟩
    have hR := mv1.free hR1
    have rS := free_ne st hR
    have mv2 := mv1.put (o := .lst []) st hR
    refine ⟨(by show 7 ≤ sizeLine; decide), fun A1 hA1 => ?_⟩
    have hA1' := mv2.free hA1
    have a1S := free_ne st hA1'
    have a1R : R ≠ A1 := fun e => by rw [← e, upd_same] at hA1; cases hA1
    have mv3 := mv2.put (o := .lst [V.int 2, .int 3, .int 0, .int 4, .int 5, .int 1, .int 3]) st hA1'
    refine ⟨_, rfl, S, p, 7, rfl, mv3.ok, by decide, by decide, fun r2 H2 r20 r21 m2 => ?_⟩
    obtain ⟨g, hg, g0, g1⟩ := drawn (l := [2, 3, 0, 4, 5, 1, 3]) (lo := 0) (hi := 5) r20 r21 (by decide)
    refine ⟨A1, _, _, _, rfl, rfl, SqL.of (m2.get a1S upd_same), hg, _, rfl, _, _, rfl, rfl, .inr ⟨_, rfl, _, _, rfl, rfl, .inl ⟨by omega, by omega⟩, ?_⟩⟩
    have mv4 := mv3.trans m2
    have hR2 : H2 R = some (.lst []) := m2.get rS (by rw [upd_ne a1R, upd_same])
    have hmul : g * (if decide (1 < n) = true then 1 else 0) ≤ 5 ∧ 0 ≤ g * (if decide (1 < n) = true then 1 else 0) ∧ (0 < g * (if decide (1 < n) = true then 1 else 0) → 1 < n) := by
      by_cases c : 1 < n
      · rw [decide_eq_true c, if_pos rfl, Int.mul_one]
        exact ⟨g1, g0, fun _ => c⟩
      · rw [decide_eq_false c, if_neg (by decide), Int.mul_zero]
        exact ⟨by decide, by decide, fun z => absurd z (by decide)⟩
    refine ⟨_, rfl, ?_, ?_, ?_⟩
    · show -(2 ^ 62) ≤ g * (if decide (1 < n) = true then 1 else 0)
      omega
    · show g * (if decide (1 < n) = true then 1 else 0) < 2 ^ 62
      omega
    show ∃ W, _
    generalize (g * (if decide (1 < n) = true then 1 else 0)) = m at hmul
    obtain ⟨hm1, hm0, hm2⟩ := hmul
    have hs1 : (1000 : Nat) < sizeLine := by decide
    refine for_range (lo := 0) (n := m.toNat) (fun i σ H3 => ∃ (rows : List (List Int)) (vs : List V) (v3 : Option V), σ = [some (.ref S), some (.int n), some (.ref R), v3] ∧ Mv S p H H3 ∧ H3 R = some (.lst vs) ∧ RpAll K (hide R (hide S H3)) vs (rows.map dLst) ∧ rows.length ≤ i ∧ ∀ r ∈ rows, FirstRow n r)
      ⟨[], [], none, rfl, mv4, hR2, .nil, Nat.le_refl _, fun r hr => by simp at hr⟩ (fun i σ H3 hi ⟨rows, vs, v3, e3, mv, hR3, rr, hlen, hrows⟩ => ?_) (fun σ H3 ⟨rows, vs, v3, e3, mv, hR3, rr, hlen, hrows⟩ => ?_)
    · subst e3
      have lvs : vs.length = rows.length := by rw [rr.length, List.length_map]
      refine ⟨_, rfl, .inl ⟨rfl, _, SqL.of hR3⟩, _, rfl, _, rfl, S, p, n, rfl, mv.ok, by omega, by omega, fun B line H4 hB pm m4 hB4 => ?_⟩
      have hB0 := mv.free hB
      have bS := free_ne st hB0
      dsimp only [tNoPart]
      refine ⟨_, rfl, S, p, 3, rfl, m4.ok, by decide, by decide, fun r5 H5 r50 r51 m5 => ⟨_, _, rfl, rfl, _, rfl, B, _, rfl, SqL.of (m5.get bS hB4), fun q hq => ?_⟩⟩
      have m45 := m4.trans m5
      have mv5 := mv.trans m45
      have hq0 := mv5.free hq
      have hqR : q ≠ R := fun e => by rw [e, m45.get rS hR3] at hq; cases hq
      have hqS := free_ne st hq0
      have hrow := firstRow_take pm (hm2 (by omega)) (by omega) (show 2 ≤ (2 + r5).toNat by omega)
      have ec : cutV (line.map V.int) none (some (2 + r5)) = (line.take (2 + r5).toNat).map V.int := by
        rw [cut_takeZ (by omega), List.map_take]
      refine ⟨R, vs, .ref q, rfl, rfl, by rw [upd_ne hqR.symm]; exact m45.get rS hR3, by omega, ?_⟩
      refine ⟨rows ++ [line.take (2 + r5).toNat], _, _, rfl, (mv5.put st hq0).put st hR, upd_same, ?_, by rw [List.length_append]; show rows.length + 1 ≤ i + 1; omega, fun r hr => ?_⟩
      · rw [hide_upd rS, hide_upd_self, List.map_append]
        refine (rr.same (hide_mono ((m45.put (o := .lst (cutV (line.map V.int) none (some (2 + r5)))) mv.ok (m45.free hq)).same))).app (.one (LstI.rp ⟨SqL.of ?_, hrow.2.2.1⟩))
        rw [hide_ne hqR, hide_ne hqS, upd_same, ec]
      · rcases List.mem_append.mp hr with h | h
        · exact hrows r h
        · rw [List.mem_singleton.mp h]
          exact hrow
    · subst e3
      have lvs : vs.length = rows.length := by rw [rr.length, List.length_map]
      have fin : ∀ {H' : Hp} {R' : Addr} {rows' : List (List Int)} {vs' : List V}, Mv S p H H' → H' R' = some (.lst vs') → R' ≠ S → RpAll K (hide S H') vs' (rows'.map dLst) → rows'.length ≤ 5 → (∀ r ∈ rows', FirstRow n r) → ∀ t, H' t = none → Q (.ref t) (upd H' t (.tup [.int n, .ref R'])) := fun {H' R' rows' vs'} mv' hR' rS' rr' hl' hr' t ht => by
        have tS := free_ne mv'.ok ht
        refine k t n rows' _ n0 n1 hl' hr' (mv'.put st (mv'.free ht)) ?_
        rw [hide_upd tS]
        have s1 := same_upd (H := hide S H') (o := .tup [.int n, .ref R']) (hide_free ht)
        refine .tup (SqT.of upd_same) (by show 2 ≤ 1000; decide) (.two (.int n) (.lst (SqL.of (s1 _ _ ?_)) ?_ (rr'.same s1)))
        · rw [hide_ne rS']
          exact hR'
        · rw [rr'.length, List.length_map]
          omega
      have rr0 : RpAll K (hide S H3) vs (rows.map dLst) := rr.same (hide_same _ _)
      refine ⟨_, rfl, R, _, rfl, .inl (SqL.of hR3), _, _, rfl, rfl, _, rfl, ?_⟩
      by_cases c : (0 : Int) < (vs.length : Nat)
      rotate_left
      · rw [decide_eq_false c]
        exact iteF (iteF ⟨_, rfl, _, rfl, (by show 2 ≤ sizeLine; decide), fin mv hR3 rS rr0 (by omega) hrows⟩)
      rw [decide_eq_true c]
      refine iteT ⟨_, rfl, S, p, 6, rfl, mv.ok, by decide, by decide, fun r6 H4 r60 r61 m4 => ⟨rfl, _, rfl, ?_⟩⟩
      have hR4 := m4.get rS hR3
      by_cases c6 : r6 = 1
      rotate_left
      · rw [decide_eq_false (show ¬ V.int r6 = V.int 1 from fun z => c6 (by injection z))]
        exact iteF ⟨_, rfl, _, rfl, (by show 2 ≤ sizeLine; decide), fin (mv.trans m4) hR4 rS (rr0.same m4.same) (by omega) hrows⟩
      rw [decide_eq_true (show V.int r6 = V.int 1 by rw [c6])]
      refine iteT ⟨_, rfl, ?_⟩
      dsimp only [tNoPart]
      refine ⟨_, rfl, R, _, rfl, SqL.of hR4, fun q1 hq1 => ?_⟩
      have ec : cutV vs none (some 4) = vs.take 4 := cut_takeZ (by decide)
      rw [ec]
      have hq1S := free_ne m4.ok hq1
      obtain ⟨r0, b0, hr0, hv0, t0⟩ : ∃ r0 b0, rows[0]? = some r0 ∧ vs[0]? = some (.ref b0) ∧ LstI K (hide S H4) b0 r0 := by
        obtain ⟨r0, b0, h1, h2, h3⟩ := (rr0.same m4.same).rowL (List.getElem?_eq_getElem (show 0 < vs.length by omega))
        exact ⟨r0, b0, h1, by rw [List.getElem?_eq_getElem (show 0 < vs.length by omega), h2], h3⟩
      have s1 := same_upd (o := .lst (vs.take 4)) hq1
      refine ⟨_, rfl, R, _, _, _, rfl, rfl, SqL.of (s1 _ _ hR4), at_of (j := 0) rfl hv0, b0, _, rfl, ((t0.same (hide_same _ _)).same s1).1, fun q2 hq2 => ⟨(by show 1 ≤ sizeLine; decide), fun q3 hq3 => ?_⟩⟩
      have s2 := same_upd (o := .lst (r0.map V.int).reverse) hq2
      have s3 := same_upd (o := .lst [.ref q2]) hq3
      have s13 := s1.trans (s2.trans s3)
      have hq2S := free_ne (m4.ok.same s1) hq2
      have e1 := (s2.trans s3) _ _ (upd_same (H := H4) (a := q1) (o := .lst (vs.take 4)))
      refine ⟨q1, q3, _, _, rfl, rfl, e1, upd_same, ?_, fun q4 hq4 => ?_⟩
      · rw [List.length_take]
        show min 4 vs.length + 1 ≤ sizeLine
        omega
      have m5 := (mv.trans m4).then s13
      have m6 := m5.then (same_upd (o := .lst (vs.take 4 ++ [.ref q2])) hq4)
      have hq4S := free_ne m5.ok hq4
      have hr0m : FirstRow n r0 := hrows r0 (List.mem_of_getElem? hr0)
      refine ⟨_, rfl, _, rfl, (by show 2 ≤ sizeLine; decide), fin (rows' := rows.take 4 ++ [r0.reverse]) m6 upd_same hq4S ?_ ?_ fun r hr => ?_⟩
      · have sA := hide_mono (S := S) (s13.trans (same_upd (o := .lst (vs.take 4 ++ [.ref q2])) hq4))
        rw [List.map_append, List.map_take]
        refine (RpAll.take 4 ((rr0.same m4.same).same sA)).app (.one (LstI.rp ⟨SqL.of ?_, (firstRow_rev hr0m).2.2.1⟩))
        rw [hide_ne hq2S, List.map_reverse]
        exact (s3.trans (same_upd (o := .lst (vs.take 4 ++ [.ref q2])) hq4)) _ _ upd_same
      · rw [List.length_append, List.length_take]
        show min 4 rows.length + 1 ≤ 5
        omega
      · rcases List.mem_append.mp hr with h | h
        · exact hrows r (List.mem_of_mem_take h)
        · rw [List.mem_singleton.mp h]
          exact firstRow_rev hr0m
end
end LK
/-! between, the number of ties -/
namespace LK
open PySem PySem.Spec PyProof.Rows L2
section
variable {m : Nat} {rows : List (List Int)} {q : Nat → Nat → Bool}
theorem between_eq (n : Int) (rows : List (List Int)) (x y : Int) : natI (betweenN n rows x y) = (natI (nearN n rows x)).filter fun z => decide (x < z) && decide (z < y) && decide (z ∈ natI (nearN n rows y)) := by
  unfold betweenN natI
  rw [List.filter_map]
  congr 1
  rw [List.filter_filter]
  unfold nearN
  rw [List.filter_filter]
  refine filter_eq fun z hz => ?_
  have hz := List.mem_range.mp hz
  show (decide (x < (z : Int)) && decide ((z : Int) < y) && decide ((x ≠ (z : Int) ∧ tiedB rows x z = true) ∧ y ≠ (z : Int) ∧ tiedB rows y z = true)) = ((decide (x < (z : Int)) && decide ((z : Int) < y) && decide ((z : Int) ∈ natI (nearN n rows y))) && decide (x ≠ (z : Int) ∧ tiedB rows x z = true))
  have e : decide ((z : Int) ∈ natI (nearN n rows y)) = decide (y ≠ (z : Int) ∧ tiedB rows y z = true) := by
    have : (z : Int) ∈ natI (nearN n rows y) ↔ (y ≠ (z : Int) ∧ tiedB rows y z = true) := by
      rw [mem_near]
      exact ⟨fun h => ⟨h.2.2.1, h.2.2.2⟩, fun h => ⟨by omega, by omega, h.1, h.2⟩⟩
    exact decide_eq_decide.mpr this
  rw [e]
  by_cases c1 : x ≠ (z : Int) ∧ tiedB rows x z = true <;> by_cases c2 : y ≠ (z : Int) ∧ tiedB rows y z = true
  · rw [decide_eq_true (⟨c1, c2⟩ : (x ≠ (z : Int) ∧ tiedB rows x z = true) ∧ y ≠ (z : Int) ∧ tiedB rows y z = true), decide_eq_true c1, decide_eq_true c2]
    cases decide (x < (z : Int)) <;> cases decide ((z : Int) < y) <;> rfl
  · rw [decide_eq_false (fun w : (x ≠ (z : Int) ∧ tiedB rows x z = true) ∧ y ≠ (z : Int) ∧ tiedB rows y z = true => c2 w.2), decide_eq_true c1, decide_eq_false c2]
    cases decide (x < (z : Int)) <;> cases decide ((z : Int) < y) <;> rfl
  · rw [decide_eq_false (fun w : (x ≠ (z : Int) ∧ tiedB rows x z = true) ∧ y ≠ (z : Int) ∧ tiedB rows y z = true => c1 w.1), decide_eq_false c1, decide_eq_true c2]
    cases decide (x < (z : Int)) <;> cases decide ((z : Int) < y) <;> rfl
  · rw [decide_eq_false (fun w : (x ≠ (z : Int) ∧ tiedB rows x z = true) ∧ y ≠ (z : Int) ∧ tiedB rows y z = true => c1 w.1), decide_eq_false c1, decide_eq_false c2]
    cases decide (x < (z : Int)) <;> cases decide ((z : Int) < y) <;> rfl
/-! sums -/
theorem sum_perm {l l' : List Int} (h : l.Perm l') : l.sum = l'.sum := by
  induction h with
  | nil => rfl
  | cons x _ ih => rw [List.sum_cons, List.sum_cons, ih]
  | swap x y l => rw [List.sum_cons, List.sum_cons, List.sum_cons, List.sum_cons]; omega
  | trans _ _ ih1 ih2 => rw [ih1, ih2]
theorem sum_eq {α : Type} {f g : α → Int} : ∀ {l : List α}, (∀ x ∈ l, f x = g x) → (l.map f).sum = (l.map g).sum
  | [], _ => rfl
  | x :: l, h => by
    rw [List.map_cons, List.map_cons, List.sum_cons, List.sum_cons, h x (by simp), sum_eq fun y hy => h y (by simp [hy])]
theorem sum_add {α : Type} {f g : α → Int} : ∀ {l : List α}, (l.map fun x => f x + g x).sum = (l.map f).sum + (l.map g).sum
  | [] => rfl
  | x :: l => by
    rw [List.map_cons, List.map_cons, List.map_cons, List.sum_cons, List.sum_cons, List.sum_cons, sum_add]
    omega
theorem sum_filter {α : Type} {p : α → Bool} {f : α → Int} : ∀ {l : List α}, (∀ x ∈ l, p x = false → f x = 0) → ((l.filter p).map f).sum = (l.map f).sum
  | [], _ => rfl
  | x :: l, h => by
    have ih := sum_filter (p := p) (f := f) (l := l) fun y hy => h y (by simp [hy])
    rw [List.filter_cons, List.map_cons, List.sum_cons]
    cases c : p x with
    | true =>
      rw [if_pos rfl, List.map_cons, List.sum_cons, ih]
    | false =>
      rw [if_neg (by decide), ih, h x (by simp) c]
      omega
theorem sum_one {k : Nat} (i : Nat) : ∀ m : Nat, ((List.range m).map fun j : Nat => if (i : Int) = (j : Int) then (1 : Int) else 0).sum = if i < m then 1 else 0
  | 0 => by simp
  | m + 1 => by
    rw [List.range_succ, List.map_append, List.sum_append, sum_one (k := k) i m]
    show _ + ((if (i : Int) = (m : Int) then (1 : Int) else 0) + 0) = _
    by_cases c : i = m
    · subst c
      rw [if_pos rfl, if_neg (by omega), if_pos (by omega)]
      rfl
    · rw [if_neg (show ¬ (i : Int) = (m : Int) by omega)]
      by_cases c2 : i < m
      · rw [if_pos c2, if_pos (by omega)]; rfl
      · rw [if_neg c2, if_neg (by omega)]; rfl
theorem acc_len (i : Int) (r : List Int) : ((accR i r).length : Int) = (if r.getD 0 0 = i then 1 else 0) + (if r.getD 1 0 = i then 1 else 0) := by
  unfold accR
  by_cases h1 : r.getD 0 0 = i <;> by_cases h2 : r.getD 1 0 = i
  · rw [if_pos h1, if_pos h2, if_pos h1, if_pos h2]; rfl
  · rw [if_pos h1, if_neg h2, if_pos h1, if_neg h2]; rfl
  · rw [if_neg h1, if_pos h2, if_neg h1, if_pos h2]; rfl
  · rw [if_neg h1, if_neg h2, if_neg h1, if_neg h2]; rfl
theorem acc_total {T : List (List Int)} (h : ∀ r ∈ T, ∃ i j : Nat, i < m ∧ j < m ∧ r = [(i : Int), (j : Int)]) : ((List.range m).map fun i : Nat => ((accL (i : Int) T).length : Int)).sum = 2 * T.length := by
  induction T with
  | nil =>
    have : (List.range m).map (fun i : Nat => ((accL (i : Int) []).length : Int)) = (List.range m).map fun _ => 0 := List.map_congr_left fun i _ => rfl
    rw [this]
    have z : ∀ k : Nat, ((List.range k).map fun _ => (0 : Int)).sum = 0 := fun k => by
      induction k with
      | zero => rfl
      | succ k ih => rw [List.range_succ, List.map_append, List.sum_append, ih]; rfl
    rw [z]
    rfl
  | cons r T ih =>
    have ih := ih fun s hs => h s (by simp [hs])
    obtain ⟨i, j, hi, hj, rfl⟩ := h r (by simp)
    have e : (List.range m).map (fun k : Nat => ((accL (k : Int) ([(i : Int), (j : Int)] :: T)).length : Int)) = (List.range m).map fun k : Nat => ((if (i : Int) = (k : Int) then (1 : Int) else 0) + (if (j : Int) = (k : Int) then (1 : Int) else 0)) + ((accL (k : Int) T).length : Int) := List.map_congr_left fun k _ => by
      unfold accL
      rw [List.flatMap_cons, List.length_append, Int.natCast_add, acc_len]
      rfl
    rw [e, sum_add, sum_add, ih, sum_one (k := 0), sum_one (k := 0), if_pos hi, if_pos hj, List.length_cons]
    omega
theorem map_range_rgI (f : Int → Int) : ((List.range m).map fun i : Nat => f (i : Int)) = (rgI m).map f := by
  unfold rgI
  rw [List.map_map]
  rfl
/-- the program's count of ties -/
theorem tieC_eq (hq : QOk m rows q) (hin : RowsIn (m : Int) rows) : tieC rows = ((pairsL m q).length : Int) := by
  have hT : ∀ r ∈ pairsL m q, ∃ i j : Nat, i < m ∧ j < m ∧ r = [(i : Int), (j : Int)] := fun r hr => by
    obtain ⟨i, j, h1, h2, _, e⟩ := mem_pairs.mp hr
    exact ⟨i, j, by omega, h2, e⟩
  have tot := acc_total hT
  have mf : ∀ x, x ∈ firsts rows ↔ ∃ r ∈ rows, x ∈ r := fun x => firsts_mem
  have inf : ∀ x ∈ firsts rows, 0 ≤ x ∧ x < (m : Int) := fun x hx => by
    obtain ⟨r, hr, hx⟩ := (mf x).mp hx
    exact hin r hr x hx
  -- what a thing told counts
  have cnt : ∀ x ∈ firsts rows, ((((firsts rows).filter fun y => tiedB rows x y).length : Int) - 1) = ((natI (nearN (m : Int) rows x)).length : Int) := fun x hx => by
    have hself : tiedB rows x x = true := by
      obtain ⟨r, hr, hxr⟩ := (mf x).mp hx
      exact List.any_eq_true.mpr ⟨r, hr, by simp [hxr]⟩
    have perm : ((firsts rows).filter fun y => tiedB rows x y).Perm (x :: natI (nearN (m : Int) rows x)) := by
      refine (List.perm_ext_iff_of_nodup ((firsts_nodup rows).filter _) (List.nodup_cons.mpr ⟨fun z => (mem_near.mp z).2.2.1 rfl, ?_⟩)).mpr fun y => ?_
      · exact (List.Pairwise.map _ (fun a b (h : a < b) => by omega) (near_pw (m : Int) rows x) : (natI (nearN (m : Int) rows x)).Pairwise (· ≠ ·))
      · rw [List.mem_filter, List.mem_cons, mem_near]
        constructor
        · rintro ⟨h1, h2⟩
          by_cases c : y = x
          · exact .inl c
          · have := inf y h1
            exact .inr ⟨this.1, this.2, fun z => c z.symm, h2⟩
        · rintro (rfl | ⟨h0, h1, h2, h3⟩)
          · exact ⟨hx, hself⟩
          · obtain ⟨r, hr, _, hy⟩ := tied_mem h3
            exact ⟨(mf y).mpr ⟨r, hr, hy⟩, h3⟩
    rw [perm.length_eq, List.length_cons]
    omega
  have e1 := sum_eq cnt
  -- the things told are those of the range with neighbours or rows
  have perm2 : (firsts rows).Perm ((rgI m).filter fun x => decide (∃ r ∈ rows, x ∈ r)) := by
    refine (List.perm_ext_iff_of_nodup (firsts_nodup rows) ((rgI_nodup m).filter _)).mpr fun x => ?_
    rw [List.mem_filter, decide_eq_true_iff, mf, rgI_mem]
    constructor
    · intro h
      exact ⟨by obtain ⟨r, hr, hx⟩ := h; have := hin r hr x hx; omega, h⟩
    · exact fun h => h.2
  have e2 := sum_perm (perm2.map fun x => ((natI (nearN (m : Int) rows x)).length : Int))
  have e3 := sum_filter (p := fun x => decide (∃ r ∈ rows, x ∈ r)) (f := fun x => ((natI (nearN (m : Int) rows x)).length : Int)) (l := rgI m) fun x _ hx => by
    have : natI (nearN (m : Int) rows x) = [] := by
      cases c : natI (nearN (m : Int) rows x) with
      | nil => rfl
      | cons y l =>
        have hy : y ∈ natI (nearN (m : Int) rows x) := by rw [c]; simp
        obtain ⟨r, hr, hxr, _⟩ := tied_mem (mem_near.mp hy).2.2.2
        exact absurd (⟨r, hr, hxr⟩ : ∃ r ∈ rows, x ∈ r) (of_decide_eq_false hx)
    rw [this]
    rfl
  have e4 : ((rgI m).map fun x => ((natI (nearN (m : Int) rows x)).length : Int)).sum = 2 * ((pairsL m q).length : Int) := by
    rw [← map_range_rgI, ← tot]
    congr 1
    refine List.map_congr_left fun i hi => ?_
    rw [acc_near hq (List.mem_range.mp hi)]
  unfold tieC
  rw [e1, e2, e3, e4]
  omega
end
end LK
namespace LK
open PySem PySem.Spec PyProof.Rows L2
def fiveBooks : List (Int × List (List Int)) := [(1, []), (3, [[0, 2], [0, 1, 2]]), (2, [[0, 1]]), (4, [[0, 1, 3], [1, 2]]), (2, [])]
/-- what a drawn deed's thing is, by the deed -/
inductive DeedK (K : PySem.W.Frag) (H : Hp) (S p : Addr) (n many : Int) (Q : VK) : Int → Prop
  | lot : (∀ v lot H', Mv S p H H' → lot.Nodup → lot.Pairwise (· ≤ ·) → (∀ x ∈ lot, 0 ≤ x ∧ x < n) → 1 ≤ lot.length → Rp K (hide S H') v (dTup lot) → DN H' v → Q v H') → DeedK K H S p n many Q 0
  | things : 2 ≤ n → (∀ v ts H', Mv S p H H' → FirstRow n ts → Rp K (hide S H') v (dTup ts) → Q v H') → DeedK K H S p n many Q 1
  | listed : 0 < many → many ≤ 1000 → (∀ i H', 0 ≤ i → i < many → Mv S p H H' → Q (.int i) H') → DeedK K H S p n many Q 2
  | other : (∀ v b H', b ∈ fiveBooks → Mv S p H H' → Rp K (hide S H') v (bookD b.1 b.2) → Q v H') → DeedK K H S p n many Q 3
  | line {w : Int} : 4 ≤ w → (∀ v ln H', List.Perm ln (rgI n.toNat) → Mv S p H H' → Rp K (hide S H') v (dTup ln) → Q v H') → DeedK K H S p n many Q w
section
variable {P : Program} {w : World} {K : PySem.W.Frag} {mg : Str → Option Value} {base : Heap} {ad : Nat → Addr} {fd : Nat → FuncData}
def spDeed (K : PySem.W.Frag) : Sp := fun vs H Q _ => ∃ (S p : Addr) (w n many : Int), vs = [.ref S, .int w, .int n, .int many] ∧ StOk H S p ∧ 1 ≤ n ∧ n ≤ 45 ∧ DeedK K H S p n many Q w
theorem ok__law_deed (T : Txt K mg ad fd) : FnOk P w K mg base CX0 3 (ad 59) (fd 59) ["_law_s", "_law_which", "_law_size", "_law_many"] (spDeed K) := by
  refine T.F__law_deed.ok sc__law_deed (fun vs H Q E h => ?_) (fun cdv A outer s H vs Q E hr h => ?_)
  · obtain ⟨S, p, _, n, many, rfl, _⟩ := h
    rfl
  · obtain ⟨S, p, _, n, many, rfl, st, n0, n1, h⟩ := h
    refine ⟨_, (pss_cons (ps_if (pt_cmpR op_eq (pv 1) pe_int (nomark _)) (pss_one (ps_ret (pe_callTy (tupN K) (by rfl) T.g_tuple (by decide +kernel) (pa_cons (pe_callB (srtI K) (by rfl) T.g_sorted (by decide +kernel) (pa_cons (pe_slice (slL K) (pe_call (ok__law_dealt T) (hr.mono (by decide)) rfl T.m__law_dealt T.F__law_dealt.kp (b__law_dealt T) .nil pass0 (pa_cons (pv 0) (pa_cons (pv 2) pa_nil))) po_none (po_some (pe_callB (call_max2 rfl) (by rfl) T.g_max (by decide +kernel) (pa_cons pe_int (pa_cons (pe_op op_sub (pv 2) (pe_ix (ixL K) (pe_lst (pa_cons pe_int (pa_cons pe_int (pa_cons pe_int (pa_cons pe_int pa_nil))))) (pe_call (ok__law_take T) (hr.mono (by decide)) rfl T.m__law_take T.F__law_take.kp (b__law_take T) .nil pass0 (pa_cons (pv 0) (pa_cons pe_int pa_nil))) (fun _ _ => rfl))) pa_nil))))) pa_nil)) pa_nil))))
  pss_nil)
  (pss_cons (ps_if (pt_cmpR op_eq (pv 1) pe_int (nomark _)) (pss_one (ps_ret (pe_callTy (tupOf K) (by rfl) T.g_tuple (by decide +kernel) (pa_cons (pe_slice (slL K) (pe_call (ok__law_dealt T) (hr.mono (by decide)) rfl T.m__law_dealt T.F__law_dealt.kp (b__law_dealt T) .nil pass0 (pa_cons (pv 0) (pa_cons (pv 2) pa_nil))) po_none (po_some (pe_op op_add pe_int (pe_call (ok__law_take T) (hr.mono (by decide)) rfl T.m__law_take T.F__law_take.kp (b__law_take T) .nil pass0 (pa_cons (pv 0) (pa_cons pe_int pa_nil)))))) pa_nil))))
  pss_nil)
  (pss_cons (ps_if (pt_cmpR op_eq (pv 1) pe_int (nomark _)) (pss_one (ps_ret (pe_call (ok__law_take T) (hr.mono (by decide)) rfl T.m__law_take T.F__law_take.kp (b__law_take T) .nil pass0 (pa_cons (pv 0) (pa_cons (pv 3) pa_nil)))))
  pss_nil)
  (pss_cons (ps_if (pt_cmpR op_eq (pv 1) pe_int (nomark _)) (pss_cons (ps_set (i := 4) sc__law_deed.nd rfl (Or.inl rfl) (pe_lst (pa_cons (pe_tup (pa_cons pe_int (pa_cons (pe_tup pa_nil) pa_nil))) (pa_cons (pe_tup (pa_cons pe_int (pa_cons (pe_tup (pa_cons (pe_tup (pa_cons pe_int (pa_cons pe_int pa_nil))) (pa_cons (pe_tup (pa_cons pe_int (pa_cons pe_int (pa_cons pe_int pa_nil)))) pa_nil))) pa_nil))) (pa_cons (pe_tup (pa_cons pe_int (pa_cons (pe_tup (pa_cons (pe_tup (pa_cons pe_int (pa_cons pe_int pa_nil))) pa_nil)) pa_nil))) (pa_cons (pe_tup (pa_cons pe_int (pa_cons (pe_tup (pa_cons (pe_tup (pa_cons pe_int (pa_cons pe_int (pa_cons pe_int pa_nil)))) (pa_cons (pe_tup (pa_cons pe_int (pa_cons pe_int pa_nil))) pa_nil))) pa_nil))) (pa_cons (pe_tup (pa_cons pe_int (pa_cons (pe_tup pa_nil) pa_nil))) pa_nil)))))))
  (pss_one (ps_ret (pe_ix (ixL K) (pv 4) (pe_call (ok__law_take T) (hr.mono (by decide)) rfl T.m__law_take T.F__law_take.kp (b__law_take T) .nil pass0 (pa_cons (pv 0) (pa_cons pe_int pa_nil))) (fun _ _ => rfl)))))
  pss_nil)
  (pss_one (ps_ret (pe_callTy (tupOf K) (by rfl) T.g_tuple (by decide +kernel) (pa_cons (pe_call (ok__law_dealt T) (hr.mono (by decide)) rfl T.m__law_dealt T.F__law_dealt.kp (b__law_dealt T) .nil pass0 (pa_cons (pv 0) (pa_cons (pv 2) pa_nil))) pa_nil)))))))), ?_⟩
    cases h with
    | lot k =>
      refine ⟨_, rfl, rfl, _, rfl, iteT ⟨_, rfl, _, rfl, S, p, n, rfl, st, by omega, by omega, fun B line H1 hB pm m1 hB1 => ?_⟩⟩
      dsimp only [tNoPart]
      refine ⟨_, rfl, (by show 4 ≤ sizeLine; decide), fun A0 hA0 => ?_⟩
      have bS := free_ne st hB
      have hA' := m1.free hA0
      have aS := free_ne st hA'
      have m2 := m1.put (o := .lst [V.int 1, .int 0, .int 1, .int 2]) st hA'
      refine ⟨_, rfl, S, p, 4, rfl, m2.ok, by decide, by decide, fun r H2 r0 r1 m3 => ?_⟩
      obtain ⟨g, hg, g0, g1⟩ := drawn (l := [1, 0, 1, 2]) (lo := 0) (hi := 2) r0 r1 (by decide)
      have hB2 : H2 B = some (.lst (line.map V.int)) := m3.get bS ((same_upd hA0) _ _ hB1)
      refine ⟨A0, _, _, _, rfl, rfl, SqL.of (m3.get aS upd_same), hg, _, _, rfl, rfl, _, _, rfl, _, rfl, B, _, rfl, SqL.of hB2, fun q hq => ?_⟩
      have hz : 1 ≤ (if (1 : Int) < n - g then n - g else 1) := by
        split <;> omega
      have m4 := m2.trans m3
      generalize (if (1 : Int) < n - g then n - g else 1) = z at hq hz ⊢
      have ec : cutV (line.map V.int) none (some z) = (line.take z.toNat).map V.int := by
        rw [cut_takeZ (by omega), List.map_take]
      have s1 := same_upd (o := .lst (cutV (line.map V.int) none (some z))) hq
      have nd : line.Nodup := (List.Perm.nodup_iff pm).mpr (rgI_nodup _)
      have hl := pm.length_eq
      rw [rgI_length] at hl
      refine ⟨q, line.take z.toNat, rfl, SqL.of (by rw [upd_same, ec]), fun ns' q2 pm2 pw hq2 => ⟨q2, _, rfl, SqL.of upd_same, fun l o hl2 ho => ?_⟩⟩
      have s2 := same_upd (o := .lst (ns'.map V.int)) hq2
      have s3 := same_upd (o := .frz o (.tup (ns'.map V.int))) hl2
      have m5 := m4.then (s1.trans s2)
      have lS := free_ne m5.ok hl2
      have lns := pm2.length_eq
      rw [List.length_take] at lns
      refine k _ ns' _ (m5.then s3) ((List.Perm.nodup_iff pm2).mpr (nd.sublist (List.take_sublist _ _))) pw (fun x hx => ?_) (by omega) (TupI.rp ⟨.inl (.inr ⟨o, ?_⟩), by omega⟩) fun a e => ?_
      · have := rgI_mem.mp (pm.mem_iff.mp (List.mem_of_mem_take (pm2.mem_iff.mp hx)))
        omega
      · rw [hide_ne lS, upd_same]
      · cases e
        exact ⟨o, _, upd_same, ho⟩
    | things hn k =>
      refine ⟨_, rfl, rfl, _, rfl, iteF ⟨_, rfl, rfl, _, rfl, iteT ⟨_, rfl, _, rfl, S, p, n, rfl, st, by omega, by omega, fun B line H1 hB pm m1 hB1 => ?_⟩⟩⟩
      dsimp only [tNoPart]
      have bS := free_ne st hB
      refine ⟨_, rfl, S, p, 2, rfl, m1.ok, by decide, by decide, fun r H2 r0 r1 m3 => ⟨_, _, rfl, rfl, _, rfl, B, _, rfl, SqL.of (m3.get bS hB1), fun q hq => ?_⟩⟩
      have ec : cutV (line.map V.int) none (some (2 + r)) = (line.take (2 + r).toNat).map V.int := by
        rw [cut_takeZ (by omega), List.map_take]
      have s1 := same_upd (o := .lst (cutV (line.map V.int) none (some (2 + r)))) hq
      have fr := firstRow_take (k := (2 + r).toNat) pm (by omega) (by omega) (by omega)
      dsimp only [tNil]
      refine tupL_use (xs := (line.take (2 + r).toNat).map V.int) (SqL.of (by rw [upd_same, ec])) fun l H4 s4 hl => ?_
      have m5 := (m1.trans m3).then (s1.trans s4)
      exact k _ _ _ m5 fr (rp_hide m5.ok (noL_dTup _) (TupI.rp ⟨hl, fr.2.2.1⟩))
    | listed h0 h1 k =>
      exact ⟨_, rfl, rfl, _, rfl, iteF ⟨_, rfl, rfl, _, rfl, iteF ⟨_, rfl, rfl, _, rfl, iteT ⟨_, rfl, _, rfl, S, p, many, rfl, st, h0, h1, fun r H2 r0 r1 m3 => k _ _ r0 r1 m3⟩⟩⟩⟩
    | other k =>
      refine ⟨_, rfl, rfl, _, rfl, iteF ⟨_, rfl, rfl, _, rfl, iteF ⟨_, rfl, rfl, _, rfl, iteF ⟨_, rfl, rfl, _, rfl, iteT ?_⟩⟩⟩⟩
      refine ⟨(by show 0 ≤ sizeLine; decide), fun c0 hc0 => ⟨(by show 2 ≤ sizeLine; decide), fun c1 hc1 => ⟨(by show 2 ≤ sizeLine; decide), fun c2 hc2 => ⟨(by show 3 ≤ sizeLine; decide), fun c3 hc3 => ⟨(by show 2 ≤ sizeLine; decide), fun c4 hc4 => ⟨(by show 2 ≤ sizeLine; decide), fun c5 hc5 => ⟨(by show 2 ≤ sizeLine; decide), fun c6 hc6 => ⟨(by show 1 ≤ sizeLine; decide), fun c7 hc7 => ⟨(by show 2 ≤ sizeLine; decide), fun c8 hc8 => ⟨(by show 3 ≤ sizeLine; decide), fun c9 hc9 => ⟨(by show 2 ≤ sizeLine; decide), fun c10 hc10 => ⟨(by show 2 ≤ sizeLine; decide), fun c11 hc11 => ⟨(by show 2 ≤ sizeLine; decide), fun c12 hc12 => ⟨(by show 0 ≤ sizeLine; decide), fun c13 hc13 => ⟨(by show 2 ≤ sizeLine; decide), fun c14 hc14 => ⟨(by show 5 ≤ sizeLine; decide), fun Lb hLb => ?_⟩⟩⟩⟩⟩⟩⟩⟩⟩⟩⟩⟩⟩⟩⟩⟩
      have sa := (((((((((((((((same_upd (o := .tup []) hc0).trans (same_upd (o := .tup [V.int 1, V.ref c0]) hc1)).trans (same_upd (o := .tup [V.int 0, V.int 2]) hc2)).trans (same_upd (o := .tup [V.int 0, V.int 1, V.int 2]) hc3)).trans (same_upd (o := .tup [V.ref c2, V.ref c3]) hc4)).trans (same_upd (o := .tup [V.int 3, V.ref c4]) hc5)).trans (same_upd (o := .tup [V.int 0, V.int 1]) hc6)).trans (same_upd (o := .tup [V.ref c6]) hc7)).trans (same_upd (o := .tup [V.int 2, V.ref c7]) hc8)).trans (same_upd (o := .tup [V.int 0, V.int 1, V.int 3]) hc9)).trans (same_upd (o := .tup [V.int 1, V.int 2]) hc10)).trans (same_upd (o := .tup [V.ref c9, V.ref c10]) hc11)).trans (same_upd (o := .tup [V.int 4, V.ref c11]) hc12)).trans (same_upd (o := .tup []) hc13)).trans (same_upd (o := .tup [V.int 2, V.ref c13]) hc14)).trans (same_upd (o := .lst [V.ref c1, V.ref c5, V.ref c8, V.ref c12, V.ref c14]) hLb)
      have b0 : Rp K _ (.ref c1) (bookD 1 []) := (.tup (SqT.of (same_upd (o := .lst [V.ref c1, V.ref c5, V.ref c8, V.ref c12, V.ref c14]) hLb _ _ (same_upd hc14 _ _ (same_upd hc13 _ _ (same_upd hc12 _ _ (same_upd hc11 _ _ (same_upd hc10 _ _ (same_upd hc9 _ _ (same_upd hc8 _ _ (same_upd hc7 _ _ (same_upd hc6 _ _ (same_upd hc5 _ _ (same_upd hc4 _ _ (same_upd hc3 _ _ (same_upd hc2 _ _ upd_same))))))))))))))) (by show 2 ≤ 1000; decide) (.cons (.int 1) (.cons (.tup (SqT.of (same_upd (o := .lst [V.ref c1, V.ref c5, V.ref c8, V.ref c12, V.ref c14]) hLb _ _ (same_upd hc14 _ _ (same_upd hc13 _ _ (same_upd hc12 _ _ (same_upd hc11 _ _ (same_upd hc10 _ _ (same_upd hc9 _ _ (same_upd hc8 _ _ (same_upd hc7 _ _ (same_upd hc6 _ _ (same_upd hc5 _ _ (same_upd hc4 _ _ (same_upd hc3 _ _ (same_upd hc2 _ _ (same_upd hc1 _ _ upd_same)))))))))))))))) (by show 0 ≤ 1000; decide) .nil) .nil)))
      have b1 : Rp K _ (.ref c5) (bookD 3 [[0, 2], [0, 1, 2]]) := (.tup (SqT.of (same_upd (o := .lst [V.ref c1, V.ref c5, V.ref c8, V.ref c12, V.ref c14]) hLb _ _ (same_upd hc14 _ _ (same_upd hc13 _ _ (same_upd hc12 _ _ (same_upd hc11 _ _ (same_upd hc10 _ _ (same_upd hc9 _ _ (same_upd hc8 _ _ (same_upd hc7 _ _ (same_upd hc6 _ _ upd_same))))))))))) (by show 2 ≤ 1000; decide) (.cons (.int 3) (.cons (.tup (SqT.of (same_upd (o := .lst [V.ref c1, V.ref c5, V.ref c8, V.ref c12, V.ref c14]) hLb _ _ (same_upd hc14 _ _ (same_upd hc13 _ _ (same_upd hc12 _ _ (same_upd hc11 _ _ (same_upd hc10 _ _ (same_upd hc9 _ _ (same_upd hc8 _ _ (same_upd hc7 _ _ (same_upd hc6 _ _ (same_upd hc5 _ _ upd_same)))))))))))) (by show 2 ≤ 1000; decide) (.cons (.tup (SqT.of (same_upd (o := .lst [V.ref c1, V.ref c5, V.ref c8, V.ref c12, V.ref c14]) hLb _ _ (same_upd hc14 _ _ (same_upd hc13 _ _ (same_upd hc12 _ _ (same_upd hc11 _ _ (same_upd hc10 _ _ (same_upd hc9 _ _ (same_upd hc8 _ _ (same_upd hc7 _ _ (same_upd hc6 _ _ (same_upd hc5 _ _ (same_upd hc4 _ _ (same_upd hc3 _ _ upd_same)))))))))))))) (by show 2 ≤ 1000; decide) (.cons (.int 0) (.cons (.int 2) .nil))) (.cons (.tup (SqT.of (same_upd (o := .lst [V.ref c1, V.ref c5, V.ref c8, V.ref c12, V.ref c14]) hLb _ _ (same_upd hc14 _ _ (same_upd hc13 _ _ (same_upd hc12 _ _ (same_upd hc11 _ _ (same_upd hc10 _ _ (same_upd hc9 _ _ (same_upd hc8 _ _ (same_upd hc7 _ _ (same_upd hc6 _ _ (same_upd hc5 _ _ (same_upd hc4 _ _ upd_same))))))))))))) (by show 3 ≤ 1000; decide) (.cons (.int 0) (.cons (.int 1) (.cons (.int 2) .nil)))) .nil))) .nil)))
      have b2 : Rp K _ (.ref c8) (bookD 2 [[0, 1]]) := (.tup (SqT.of (same_upd (o := .lst [V.ref c1, V.ref c5, V.ref c8, V.ref c12, V.ref c14]) hLb _ _ (same_upd hc14 _ _ (same_upd hc13 _ _ (same_upd hc12 _ _ (same_upd hc11 _ _ (same_upd hc10 _ _ (same_upd hc9 _ _ upd_same)))))))) (by show 2 ≤ 1000; decide) (.cons (.int 2) (.cons (.tup (SqT.of (same_upd (o := .lst [V.ref c1, V.ref c5, V.ref c8, V.ref c12, V.ref c14]) hLb _ _ (same_upd hc14 _ _ (same_upd hc13 _ _ (same_upd hc12 _ _ (same_upd hc11 _ _ (same_upd hc10 _ _ (same_upd hc9 _ _ (same_upd hc8 _ _ upd_same))))))))) (by show 1 ≤ 1000; decide) (.cons (.tup (SqT.of (same_upd (o := .lst [V.ref c1, V.ref c5, V.ref c8, V.ref c12, V.ref c14]) hLb _ _ (same_upd hc14 _ _ (same_upd hc13 _ _ (same_upd hc12 _ _ (same_upd hc11 _ _ (same_upd hc10 _ _ (same_upd hc9 _ _ (same_upd hc8 _ _ (same_upd hc7 _ _ upd_same)))))))))) (by show 2 ≤ 1000; decide) (.cons (.int 0) (.cons (.int 1) .nil))) .nil)) .nil)))
      have b3 : Rp K _ (.ref c12) (bookD 4 [[0, 1, 3], [1, 2]]) := (.tup (SqT.of (same_upd (o := .lst [V.ref c1, V.ref c5, V.ref c8, V.ref c12, V.ref c14]) hLb _ _ (same_upd hc14 _ _ (same_upd hc13 _ _ upd_same)))) (by show 2 ≤ 1000; decide) (.cons (.int 4) (.cons (.tup (SqT.of (same_upd (o := .lst [V.ref c1, V.ref c5, V.ref c8, V.ref c12, V.ref c14]) hLb _ _ (same_upd hc14 _ _ (same_upd hc13 _ _ (same_upd hc12 _ _ upd_same))))) (by show 2 ≤ 1000; decide) (.cons (.tup (SqT.of (same_upd (o := .lst [V.ref c1, V.ref c5, V.ref c8, V.ref c12, V.ref c14]) hLb _ _ (same_upd hc14 _ _ (same_upd hc13 _ _ (same_upd hc12 _ _ (same_upd hc11 _ _ (same_upd hc10 _ _ upd_same))))))) (by show 3 ≤ 1000; decide) (.cons (.int 0) (.cons (.int 1) (.cons (.int 3) .nil)))) (.cons (.tup (SqT.of (same_upd (o := .lst [V.ref c1, V.ref c5, V.ref c8, V.ref c12, V.ref c14]) hLb _ _ (same_upd hc14 _ _ (same_upd hc13 _ _ (same_upd hc12 _ _ (same_upd hc11 _ _ upd_same)))))) (by show 2 ≤ 1000; decide) (.cons (.int 1) (.cons (.int 2) .nil))) .nil))) .nil)))
      have b4 : Rp K _ (.ref c14) (bookD 2 []) := (.tup (SqT.of (same_upd (o := .lst [V.ref c1, V.ref c5, V.ref c8, V.ref c12, V.ref c14]) hLb _ _ upd_same)) (by show 2 ≤ 1000; decide) (.cons (.int 2) (.cons (.tup (SqT.of (same_upd (o := .lst [V.ref c1, V.ref c5, V.ref c8, V.ref c12, V.ref c14]) hLb _ _ (same_upd hc14 _ _ upd_same))) (by show 0 ≤ 1000; decide) .nil) .nil)))
      have mv := (Mv.refl st).then sa
      refine ⟨_, rfl, _, rfl, S, p, 5, rfl, mv.ok, by decide, by decide, fun r H2 r0 r1 m2 => ?_⟩
      have hLS : Lb ≠ S := free_ne ((Mv.refl st).then (((((((((((((((same_upd (o := .tup []) hc0).trans (same_upd (o := .tup [V.int 1, V.ref c0]) hc1)).trans (same_upd (o := .tup [V.int 0, V.int 2]) hc2)).trans (same_upd (o := .tup [V.int 0, V.int 1, V.int 2]) hc3)).trans (same_upd (o := .tup [V.ref c2, V.ref c3]) hc4)).trans (same_upd (o := .tup [V.int 3, V.ref c4]) hc5)).trans (same_upd (o := .tup [V.int 0, V.int 1]) hc6)).trans (same_upd (o := .tup [V.ref c6]) hc7)).trans (same_upd (o := .tup [V.int 2, V.ref c7]) hc8)).trans (same_upd (o := .tup [V.int 0, V.int 1, V.int 3]) hc9)).trans (same_upd (o := .tup [V.int 1, V.int 2]) hc10)).trans (same_upd (o := .tup [V.ref c9, V.ref c10]) hc11)).trans (same_upd (o := .tup [V.int 4, V.ref c11]) hc12)).trans (same_upd (o := .tup []) hc13)).trans (same_upd (o := .tup [V.int 2, V.ref c13]) hc14))).ok hLb
      have hL2 := m2.get hLS upd_same
      have fin : ∀ (x : V) (b : Int × List (List Int)), b ∈ fiveBooks → Rp K _ x (bookD b.1 b.2) → Q x H2 := fun x b hb hx => k x b H2 hb (mv.trans m2) (m2.rp (rp_hide mv.ok (noL_book _ _) hx))
      obtain ⟨j, rfl⟩ : ∃ j : Nat, r = (j : Int) := ⟨r.toNat, by omega⟩
      have hj : j < 5 := by omega
      have hj2 : j = 0 ∨ j = 1 ∨ j = 2 ∨ j = 3 ∨ j = 4 := by omega
      rcases hj2 with rfl | rfl | rfl | rfl | rfl
      · exact ⟨Lb, _, _, .ref c1, rfl, rfl, SqL.of hL2, at_of (j := 0) rfl rfl, fin _ (1, []) (by simp [fiveBooks]) b0⟩
      · exact ⟨Lb, _, _, .ref c5, rfl, rfl, SqL.of hL2, at_of (j := 1) rfl rfl, fin _ (3, [[0, 2], [0, 1, 2]]) (by simp [fiveBooks]) b1⟩
      · exact ⟨Lb, _, _, .ref c8, rfl, rfl, SqL.of hL2, at_of (j := 2) rfl rfl, fin _ (2, [[0, 1]]) (by simp [fiveBooks]) b2⟩
      · exact ⟨Lb, _, _, .ref c12, rfl, rfl, SqL.of hL2, at_of (j := 3) rfl rfl, fin _ (4, [[0, 1, 3], [1, 2]]) (by simp [fiveBooks]) b3⟩
      · exact ⟨Lb, _, _, .ref c14, rfl, rfl, SqL.of hL2, at_of (j := 4) rfl rfl, fin _ (2, []) (by simp [fiveBooks]) b4⟩
    | line hw k =>
      refine ⟨_, rfl, rfl, _, rfl, ?_⟩
      rw [decide_eq_false (fun z => by injection z; omega)]
      refine iteF ⟨_, rfl, rfl, _, rfl, ?_⟩
      rw [decide_eq_false (fun z => by injection z; omega)]
      refine iteF ⟨_, rfl, rfl, _, rfl, ?_⟩
      rw [decide_eq_false (fun z => by injection z; omega)]
      refine iteF ⟨_, rfl, rfl, _, rfl, ?_⟩
      rw [decide_eq_false (fun z => by injection z; omega)]
      refine iteF ⟨_, rfl, _, rfl, S, p, n, rfl, st, by omega, by omega, fun B line H1 hB pm m1 hB1 => ?_⟩
      have hl := pm.length_eq
      rw [rgI_length] at hl
      dsimp only [tNil]
      refine tupL_use (SqL.of hB1) fun l H4 s4 hl4 => ?_
      have m5 := m1.then s4
      exact k _ line _ pm m5 (rp_hide m5.ok (noL_dTup _) (TupI.rp ⟨hl4, by omega⟩))
end
end LK
/-! comprehensions whose elements may hold lists, while the state at S is hidden -/
namespace LK
open PySem PySem.Spec PyProof.Rows L2
theorem hide2_self {S D : Addr} {H : Hp} {o : HO} : hide D (hide S (upd H D o)) = hide D (hide S H) := by
  by_cases e : D = S
  · subst e
    rw [hide_upd_self]
  · rw [hide_upd e, hide_upd_self]
/-- at D the values so far, all else stands -/
def FillS (K : PySem.W.Frag) (S : Addr) (H : Hp) (D : Addr) (H' : Hp) (xs : List V) (ds : List PyData) : Prop := Fill H D H' xs ∧ RpAll K (hide D (hide S H')) xs ds
theorem fillS_start {K : PySem.W.Frag} {S : Addr} {H : Hp} {D : Addr} (n : H D = none) : FillS K S H D (upd H D (.lst [])) [] [] := ⟨Fill.start n, .nil⟩
theorem fillS_push {K : PySem.W.Frag} {S : Addr} {H H1 H2 : Hp} {D : Addr} {xs : List V} {ds : List PyData} {y : V} {d : PyData} (n : H D = none) (f : FillS K S H D H1 xs ds) (s : Same H1 H2) (r : Rp K (hide D (hide S H2)) y d) : FillS K S H D (upd H2 D (.lst (xs ++ [y]))) (xs ++ [y]) (ds ++ [d]) :=
  ⟨f.1.push n s, by rw [hide2_self]; exact (f.2.same (hide_mono (hide_mono s))).app (.cons r .nil)⟩
theorem fillS_same {K : PySem.W.Frag} {S : Addr} {H H1 H2 : Hp} {D : Addr} {xs : List V} {ds : List PyData} (f : FillS K S H D H1 xs ds) (s : Same H1 H2) : FillS K S H D H2 xs ds := ⟨⟨f.1.1.trans s, s _ _ f.1.2⟩, f.2.same (hide_mono (hide_mono s))⟩
theorem lcLS {K : PySem.W.Frag} (S : Addr) {a : Addr} {xs : List V} {g : TG} {tt : TT} {te : TE} {vs : List Nat} {σ : L2.St} {H : Hp} {D : Addr} {Qd : Hp → Prop} (p : Nat → Bool) (f : Nat → PyData) (hD : H D = none) (hx : SqL K H a xs) (hz : xs.length ≤ 1000)
    (hs : ∀ (i : Nat) (x : V) (H1 : Hp), xs[i]? = some x → Same H H1 → (∃ ys, H1 D = some (.lst ys)) → ∀ (Q : VK) (Q' : Hp → Prop), (p i = true → ∀ y H2, Same H1 H2 → Rp K (hide D (hide S H2)) y (f i) → Q y H2) → (p i = false → ∀ H2, Same H1 H2 → Q' H2) →
      g x (wipe σ vs) H1 fun σ2 H2 => wipe σ2 vs = wipe σ vs ∧ tt σ2 H2 fun b H3 => if b = true then te σ2 H3 Q else Q' H3)
    (hd : ∀ ys H1, Same H H1 → H1 D = some (.lst ys) → ys.length ≤ xs.length → RpAll K (hide D (hide S H1)) ys (((List.range xs.length).filter p).map f) → Qd H1) :
    ∃ W : Nat → Nat → Hp → Prop, (∃ m, W 0 m (upd H D (.lst []))) ∧ ∀ i m H, W i m H →
      ((Itl K a).stop i H ∧ Qd H) ∨ ((Itl K a).go i H ∧ ∃ Nx : Hp → Prop, (∀ H', Nx H' → ∃ m', m' < m ∧ W (i + 1) m' H') ∧ ∀ x H', (Itl K a).yld i H x H' → g x (wipe σ vs) H' fun σ2 H2 => wipe σ2 vs = wipe σ vs ∧ tt σ2 H2 fun b H3 =>
        if b = true then te σ2 H3 fun y H4 => ∃ acc, H4 D = some (.lst acc) ∧ acc.length < sizeLine ∧ Nx (upd H4 D (.lst (acc ++ [y]))) else Nx H3) := by
  refine lc_list (fun i H1 => ∃ ys, FillS K S H D H1 ys (((List.range i).filter p).map f) ∧ ys.length ≤ i) ⟨[], fillS_start hD, Nat.le_refl _⟩ (fun i H1 _ ⟨ys, fl, _⟩ => fl.1.1.seq hx)
    (fun i x H1 hi ⟨ys, fl, hy⟩ => ?_) (fun H1 ⟨ys, fl, hy⟩ => hd ys H1 fl.1.1 fl.1.2 hy fl.2)
  have hlt : i < xs.length := (List.getElem?_eq_some_iff.mp hi).1
  refine hs i x H1 hi fl.1.1 ⟨ys, fl.1.2⟩ _ _ (fun hp y H2 s2 ry => ⟨ys, fl.1.at s2, small1000 (by omega), ys ++ [y], ?_, by rw [List.length_append, List.length_singleton]; omega⟩) (fun hp H2 s2 => ⟨ys, ?_, by omega⟩)
  · rw [List.range_succ, List.filter_append, List.map_append]
    have e1 : ([i].filter p) = [i] := by simp [hp]
    rw [e1]
    exact fillS_push hD fl s2 ry
  · rw [List.range_succ, List.filter_append]
    have e1 : ([i].filter p) = [] := by simp [hp]
    rw [e1, List.append_nil]
    exact fillS_same fl s2
theorem lcTS {K : PySem.W.Frag} (S : Addr) {a : Addr} {xs : List V} {g : TG} {tt : TT} {te : TE} {vs : List Nat} {σ : L2.St} {H : Hp} {D : Addr} {Qd : Hp → Prop} (p : Nat → Bool) (f : Nat → PyData) (hD : H D = none) (hx : SqT K H a xs) (hz : xs.length ≤ 1000)
    (hs : ∀ (i : Nat) (x : V) (H1 : Hp), xs[i]? = some x → Same H H1 → (∃ ys, H1 D = some (.lst ys)) → ∀ (Q : VK) (Q' : Hp → Prop), (p i = true → ∀ y H2, Same H1 H2 → Rp K (hide D (hide S H2)) y (f i) → Q y H2) → (p i = false → ∀ H2, Same H1 H2 → Q' H2) →
      g x (wipe σ vs) H1 fun σ2 H2 => wipe σ2 vs = wipe σ vs ∧ tt σ2 H2 fun b H3 => if b = true then te σ2 H3 Q else Q' H3)
    (hd : ∀ ys H1, Same H H1 → H1 D = some (.lst ys) → ys.length ≤ xs.length → RpAll K (hide D (hide S H1)) ys (((List.range xs.length).filter p).map f) → Qd H1) :
    ∃ W : Nat → Nat → Hp → Prop, (∃ m, W 0 m (upd H D (.lst []))) ∧ ∀ i m H, W i m H →
      ((Itt K a).stop i H ∧ Qd H) ∨ ((Itt K a).go i H ∧ ∃ Nx : Hp → Prop, (∀ H', Nx H' → ∃ m', m' < m ∧ W (i + 1) m' H') ∧ ∀ x H', (Itt K a).yld i H x H' → g x (wipe σ vs) H' fun σ2 H2 => wipe σ2 vs = wipe σ vs ∧ tt σ2 H2 fun b H3 =>
        if b = true then te σ2 H3 fun y H4 => ∃ acc, H4 D = some (.lst acc) ∧ acc.length < sizeLine ∧ Nx (upd H4 D (.lst (acc ++ [y]))) else Nx H3) := by
  refine lc_tup (fun i H1 => ∃ ys, FillS K S H D H1 ys (((List.range i).filter p).map f) ∧ ys.length ≤ i) ⟨[], fillS_start hD, Nat.le_refl _⟩ (fun i H1 _ ⟨ys, fl, _⟩ => seqT fl.1.1 hx)
    (fun i x H1 hi ⟨ys, fl, hy⟩ => ?_) (fun H1 ⟨ys, fl, hy⟩ => hd ys H1 fl.1.1 fl.1.2 hy fl.2)
  have hlt : i < xs.length := (List.getElem?_eq_some_iff.mp hi).1
  refine hs i x H1 hi fl.1.1 ⟨ys, fl.1.2⟩ _ _ (fun hp y H2 s2 ry => ⟨ys, fl.1.at s2, small1000 (by omega), ys ++ [y], ?_, by rw [List.length_append, List.length_singleton]; omega⟩) (fun hp H2 s2 => ⟨ys, ?_, by omega⟩)
  · rw [List.range_succ, List.filter_append, List.map_append]
    have e1 : ([i].filter p) = [i] := by simp [hp]
    rw [e1]
    exact fillS_push hD fl s2 ry
  · rw [List.range_succ, List.filter_append]
    have e1 : ([i].filter p) = [] := by simp [hp]
    rw [e1, List.append_nil]
    exact fillS_same fl s2
theorem lcRS {K : PySem.W.Frag} (S : Addr) {lo : Int} {n : Nat} {g : TG} {tt : TT} {te : TE} {vs : List Nat} {σ : L2.St} {H : Hp} {D : Addr} {Qd : Hp → Prop} (p : Nat → Bool) (f : Nat → PyData) (hD : H D = none) (hz : n ≤ 1000)
    (hs : ∀ (i : Nat)  (H1 : Hp), i < n → Same H H1 → (∃ ys, H1 D = some (.lst ys)) → ∀ (Q : VK) (Q' : Hp → Prop), (p i = true → ∀ y H2, Same H1 H2 → Rp K (hide D (hide S H2)) y (f i) → Q y H2) → (p i = false → ∀ H2, Same H1 H2 → Q' H2) →
      g (.int (lo + i)) (wipe σ vs) H1 fun σ2 H2 => wipe σ2 vs = wipe σ vs ∧ tt σ2 H2 fun b H3 => if b = true then te σ2 H3 Q else Q' H3)
    (hd : ∀ ys H1, Same H H1 → H1 D = some (.lst ys) → ys.length ≤ n → RpAll K (hide D (hide S H1)) ys (((List.range n).filter p).map f) → Qd H1) :
    ∃ W : Nat → Nat → Hp → Prop, (∃ m, W 0 m (upd H D (.lst []))) ∧ ∀ i m H, W i m H →
      ((Itr lo n).stop i H ∧ Qd H) ∨ ((Itr lo n).go i H ∧ ∃ Nx : Hp → Prop, (∀ H', Nx H' → ∃ m', m' < m ∧ W (i + 1) m' H') ∧ ∀ x H', (Itr lo n).yld i H x H' → g x (wipe σ vs) H' fun σ2 H2 => wipe σ2 vs = wipe σ vs ∧ tt σ2 H2 fun b H3 =>
        if b = true then te σ2 H3 fun y H4 => ∃ acc, H4 D = some (.lst acc) ∧ acc.length < sizeLine ∧ Nx (upd H4 D (.lst (acc ++ [y]))) else Nx H3) := by
  refine lc_range (fun i H1 => ∃ ys, FillS K S H D H1 ys (((List.range i).filter p).map f) ∧ ys.length ≤ i) ⟨[], fillS_start hD, Nat.le_refl _⟩ 
    (fun i  H1 hi ⟨ys, fl, hy⟩ => ?_) (fun H1 ⟨ys, fl, hy⟩ => hd ys H1 fl.1.1 fl.1.2 hy fl.2)
  have hlt : i < n := hi
  refine hs i  H1 hi fl.1.1 ⟨ys, fl.1.2⟩ _ _ (fun hp y H2 s2 ry => ⟨ys, fl.1.at s2, small1000 (by omega), ys ++ [y], ?_, by rw [List.length_append, List.length_singleton]; omega⟩) (fun hp H2 s2 => ⟨ys, ?_, by omega⟩)
  · rw [List.range_succ, List.filter_append, List.map_append]
    have e1 : ([i].filter p) = [i] := by simp [hp]
    rw [e1]
    exact fillS_push hD fl s2 ry
  · rw [List.range_succ, List.filter_append]
    have e1 : ([i].filter p) = [] := by simp [hp]
    rw [e1, List.append_nil]
    exact fillS_same fl s2
end LK
/-! what lays data anew, told by the data alone; list + list however tracked -/
namespace LK
open PySem PySem.Spec PyProof.Rows L2
def rCatL (K : PySem.W.Frag) : R2 := fun x y H Q => ∃ a b xs ys, x = .ref a ∧ y = .ref b ∧ SqL K H a xs ∧ SqL K H b ys ∧ xs.length + ys.length ≤ 2000 ∧ ∀ p, H p = none → Q (.ref p) (upd H p (.lst (xs ++ ys)))
theorem catL {X : Cx} (K : PySem.W.Frag) (hK : X.K = K := by rfl) : OpR X (binaryOp .Add) (rCatL K) := by
  subst hK
  intro pins s σ H x y v u Q I rx ry h
  obtain ⟨a, b, xs, ys, rfl, rfl, ha, hb, hz, q⟩ := h
  cases rx
  cases ry
  obtain ⟨its, r, p, z⟩ := I.list ha
  obtain ⟨its2, r2, p2, z2⟩ := I.list hb
  obtain ⟨⟨cls, dd, data, sl⟩, ho, hc, n, hd⟩ := id p.isList
  obtain ⟨⟨cls2, dd2, data2, sl2⟩, ho2, hc2, n2, hd2⟩ := id p2.isList
  simp only at hc hd hc2 hd2
  subst hc hd hc2 hd2
  have l1 := r.length
  have l2 := r2.length
  have hs : (2000 : Nat) ≤ sizeLine := by decide
  have ea : its.toArray ++ its2.toArray = (its ++ its2).toArray := by simp
  refine concat_meets ⟨_, ho, rfl⟩ ⟨_, ho2, rfl⟩ noFill_list_add seq_list_add PySem.F.slot_list_add PySem.F.entry_list_add (PySem.F.args_list_add_2 _ _) (list_addW a b its.toArray its2.toArray n n2 dd dd2 sl sl2 (by rw [List.size_toArray, List.size_toArray]; omega)) ⟨ho, ho2, ?_⟩
  rw [ea]
  exact ⟨.ref _, _, I.lnew (t' := s.toks) (r.append r2) (by rw [List.length_append]; omega), rfl, q _ I.fresh⟩

/-- t yields the data d, and lays only what is new; the law's state may be drawn from -/
def Yld (K : PySem.W.Frag) (S p : Addr) (H0 : Hp) (σ : L2.St) (t : TE) (d : PyData) : Prop := ∀ H (Q : VK), Mv S p H0 H → (∀ v H', Mv S p H H' → Rp K (hide S H') v d → Q v H') → t σ H Q
def YldA (K : PySem.W.Frag) (S p : Addr) (H0 : Hp) (σ : L2.St) (t : TA) (ds : List PyData) : Prop := ∀ H Q, Mv S p H0 H → (∀ vs H', Mv S p H H' → RpAll K (hide S H') vs ds → Q vs H') → t σ H Q
section
variable {K : PySem.W.Frag} {S p : Addr} {H0 : Hp} {σ : L2.St} {t ta tb : TE} {tt : TA} {d e : PyData} {ds : List PyData}
theorem Yld.use {Q : VK} {H : Hp} (y : Yld K S p H σ t d) (st : StOk H S p) (k : ∀ v H', Mv S p H H' → Rp K (hide S H') v d → Q v H') : t σ H Q := y H Q (Mv.refl st) k
theorem Yld.at {H1 : Hp} (y : Yld K S p H0 σ t d) (m : Mv S p H0 H1) : Yld K S p H1 σ t d := fun H Q m2 k => y H Q (m.trans m2) k
theorem y_int {i : Int} : Yld K S p H0 σ (tC (.int i)) (.int i) := fun H Q m k => k _ _ (Mv.refl m.ok) (.int i)
theorem y_bl {b : Bool} : Yld K S p H0 σ (tC (.bl b)) (.bool b) := fun H Q m k => k _ _ (Mv.refl m.ok) (.bl b)
theorem y_non : Yld K S p H0 σ (tC .non) .none := fun H Q m k => k _ _ (Mv.refl m.ok) .non
theorem y_str {x : Str} : Yld K S p H0 σ (tC (.str x)) (.str x) := fun H Q m k => k _ _ (Mv.refl m.ok) (.str x)
theorem y_neg {i : Int} (y : Yld K S p H0 σ t (.int i)) : Yld K S p H0 σ (tUn (rU fun i => .int (-i)) t) (.int (-i)) := fun H Q m k =>
  y H _ m fun v H' m' r => by
    cases r
    exact ⟨i, rfl, k _ _ m' (.int _)⟩
theorem y_var {i : Nat} {v : V} (h : σ[i]? = some (some v)) (r : Rp K (hide S H0) v d) : Yld K S p H0 σ (tVar i) d := fun H Q m k => ⟨v, h, k _ _ (Mv.refl m.ok) (m.rp r)⟩
theorem y_add {i j : Int} (ya : Yld K S p H0 σ ta (.int i)) (yb : Yld K S p H0 σ tb (.int j)) : Yld K S p H0 σ (tOp (rI0 fun i j => .int (i + j)) ta tb) (.int (i + j)) := fun H Q m k =>
  ya H _ m fun v H' m' r => by
    cases r
    refine yb H' _ (m.trans m') fun v2 H2 m2 r2 => ?_
    cases r2
    exact ⟨i, j, rfl, rfl, k _ _ (m'.trans m2) (.int _)⟩
theorem y_sub {i j : Int} (ya : Yld K S p H0 σ ta (.int i)) (yb : Yld K S p H0 σ tb (.int j)) : Yld K S p H0 σ (tOp (rI0 fun i j => .int (i - j)) ta tb) (.int (i - j)) := fun H Q m k =>
  ya H _ m fun v H' m' r => by
    cases r
    refine yb H' _ (m.trans m') fun v2 H2 m2 r2 => ?_
    cases r2
    exact ⟨i, j, rfl, rfl, k _ _ (m'.trans m2) (.int _)⟩
theorem ya_nil : YldA K S p H0 σ tNil [] := fun H Q m k => k _ _ (Mv.refl m.ok) .nil
theorem ya_cons (y : Yld K S p H0 σ t d) (ys : YldA K S p H0 σ tt ds) : YldA K S p H0 σ (tCons t tt) (d :: ds) := fun H Q m k =>
  y H _ m fun v H' m' r => ys H' _ (m.trans m') fun vs H2 m2 r2 => k _ _ (m'.trans m2) (.cons (m2.rp r) r2)
theorem rp_tupNew {H : Hp} {q : Addr} {xs : List V} (hS : q ≠ S) (r : RpAll K (hide S H) xs ds) (hq : H q = none) (hz : xs.length ≤ 1000) : Rp K (hide S (upd H q (.tup xs))) (.ref q) (.tuple ds) :=
  .tup (SqT.of (by rw [hide_ne hS, upd_same])) hz (r.same (hide_mono (same_upd hq)))
theorem rp_lstNew {H : Hp} {q : Addr} {xs : List V} (hS : q ≠ S) (r : RpAll K (hide S H) xs ds) (hq : H q = none) (hz : xs.length ≤ 1000) : Rp K (hide S (upd H q (.lst xs))) (.ref q) (.list ds) :=
  .lst (SqL.of (by rw [hide_ne hS, upd_same])) hz (r.same (hide_mono (same_upd hq)))
theorem le_line {n : Nat} (h : n ≤ 1000) : n ≤ sizeLine := Nat.le_of_lt (small1000 h)
theorem y_tup (y : YldA K S p H0 σ tt ds) (hz : ds.length ≤ 1000 := by exact Nat.le_of_ble_eq_true rfl) : Yld K S p H0 σ (tTup tt) (.tuple ds) := fun H Q m k =>
  y H _ m fun vs H' m' r => by
    have hl : vs.length ≤ 1000 := by rw [r.length]; exact hz
    refine ⟨le_line hl, fun q hq => ?_⟩
    exact k _ _ (m'.then (same_upd hq)) (rp_tupNew (free_ne m'.ok hq) r hq hl)
theorem y_lst (y : YldA K S p H0 σ tt ds) (hz : ds.length ≤ 1000 := by exact Nat.le_of_ble_eq_true rfl) : Yld K S p H0 σ (tLst tt) (.list ds) := fun H Q m k =>
  y H _ m fun vs H' m' r => by
    have hl : vs.length ≤ 1000 := by rw [r.length]; exact hz
    refine ⟨le_line hl, fun q hq => ?_⟩
    exact k _ _ (m'.then (same_upd hq)) (rp_lstNew (free_ne m'.ok hq) r hq hl)
theorem rgV_ints (a b : Int) : rgV a b = ((List.range (b - a).toNat).map fun i => a + ((i : Nat) : Int)).map V.int := by
  unfold rgV
  rw [List.map_map]
  rfl
def rgD (a b : Int) : List PyData := (List.range (b - a).toNat).map fun i => PyData.int (a + ((i : Nat) : Int))
theorem rgD_length (a b : Int) : (rgD a b).length = (b - a).toNat := by
  unfold rgD
  rw [List.length_map, List.length_range]
theorem rgV_rp {H : Hp} (a b : Int) : RpAll K H (rgV a b) (rgD a b) := by
  unfold rgV rgD
  generalize List.range (b - a).toNat = l
  induction l with
  | nil => exact .nil
  | cons x l ih => exact .cons (.int _) ih
theorem y_rg1L {b : Int} (y : Yld K S p H0 σ t (.int b)) (h : 0 ≤ b ∧ b ≤ 1000) : Yld K S p H0 σ (tLstRg (tRg1 t)) (.list (rgD 0 b)) := fun H Q m k =>
  y H _ m fun v H' m' r => by
    cases r
    refine ⟨b, rfl, .of_le (by omega) (by omega) (by omega) (by omega), fun q hq => ?_⟩
    exact k _ _ (m'.then (same_upd hq)) (rp_lstNew (free_ne m'.ok hq) (rgV_rp _ _) hq (by rw [rgV_length]; omega))
theorem y_rg1T {b : Int} (y : Yld K S p H0 σ t (.int b)) (h : 0 ≤ b ∧ b ≤ 1000) : Yld K S p H0 σ (tTupRg (tRg1 t)) (.tuple (rgD 0 b)) := fun H Q m k =>
  y H _ m fun v H' m' r => by
    cases r
    refine ⟨b, rfl, .of_le (by omega) (by omega) (by omega) (by omega), fun q hq => ?_⟩
    exact k _ _ (m'.then (same_upd hq)) (rp_tupNew (free_ne m'.ok hq) (rgV_rp _ _) hq (by rw [rgV_length]; omega))
theorem y_rg2T {a b : Int} (ya : Yld K S p H0 σ ta (.int a)) (yb : Yld K S p H0 σ tb (.int b)) (h : 0 ≤ a ∧ a ≤ 1000 ∧ 0 ≤ b ∧ b ≤ 1000) : Yld K S p H0 σ (tTupRg (tRg2 ta tb)) (.tuple (rgD a b)) := fun H Q m k =>
  ya H _ m fun v H' m' r => by
    cases r
    refine yb H' _ (m.trans m') fun v2 H2 m2 r2 => ?_
    cases r2
    refine ⟨a, b, rfl, rfl, .of_le (by omega) (by omega) (by omega) (by omega), fun q hq => ?_⟩
    exact k _ _ ((m'.trans m2).then (same_upd hq)) (rp_tupNew (free_ne m2.ok hq) (rgV_rp _ _) hq (by rw [rgV_length]; omega))
theorem y_catL {ds es : List PyData} (ya : Yld K S p H0 σ ta (.list ds)) (yb : Yld K S p H0 σ tb (.list es)) (h : ds.length + es.length ≤ 1000) : Yld K S p H0 σ (tOp (rCatL K) ta tb) (.list (ds ++ es)) := fun H Q m k =>
  ya H _ m fun v H' m' r => yb H' _ (m.trans m') fun v2 H2 m2 r2 => by
    obtain ⟨a, xs, rfl, ha, la, ra⟩ := (m2.rp r).lstA
    obtain ⟨b, ys, rfl, hb, lb, rb⟩ := r2.lstA
    have e1 := ra.length
    have e2 := rb.length
    refine ⟨a, b, xs, ys, rfl, rfl, (hide_same _ _).seq ha, (hide_same _ _).seq hb, by omega, fun q hq => ?_⟩
    exact k _ _ ((m'.trans m2).then (same_upd hq)) (rp_lstNew (free_ne m2.ok hq) (ra.app rb) hq (by rw [List.length_append]; omega))
theorem Rp.tupA' {H : Hp} {v : V} (h : Rp K H v (.tuple ds)) : ∃ a xs, v = .ref a ∧ SqT K H a xs ∧ xs.length ≤ 1000 ∧ RpAll K H xs ds := h.tupA
theorem y_catT {ds es : List PyData} (ya : Yld K S p H0 σ ta (.tuple ds)) (yb : Yld K S p H0 σ tb (.tuple es)) (h : ds.length + es.length ≤ 1000) : Yld K S p H0 σ (tOp (rCatA K) ta tb) (.tuple (ds ++ es)) := fun H Q m k =>
  ya H _ m fun v H' m' r => yb H' _ (m.trans m') fun v2 H2 m2 r2 => by
    obtain ⟨a, xs, rfl, ha, la, ra⟩ := (m2.rp r).tupA
    obtain ⟨b, ys, rfl, hb, lb, rb⟩ := r2.tupA
    have e1 := ra.length
    have e2 := rb.length
    obtain ⟨zs, hS⟩ := m2.ok.atS
    refine catA_use (seqT (hide_same _ _) ha) (seqT (hide_same _ _) hb) (by omega) fun q H3 s3 hq => ?_
    have m3 := (m'.trans m2).then s3
    obtain ⟨zs3, hS3⟩ := m3.ok.atS
    exact k _ _ m3 (.tup (seqT_hide hS3 hq) (by rw [List.length_append]; omega) ((ra.app rb).same (hide_mono s3)))
theorem y_repT {ds : List PyData} {n : Int} (ya : Yld K S p H0 σ ta (.tuple ds)) (yb : Yld K S p H0 σ tb (.int n)) (h : ds.length = 1 ∧ 2 ≤ n ∧ n ≤ 1000) : Yld K S p H0 σ (tOp (rRepT K) ta tb) (.tuple (List.replicate n.toNat ds).flatten) := fun H Q m k =>
  ya H _ m fun v H' m' r => yb H' _ (m.trans m') fun v2 H2 m2 r2 => by
    cases r2
    obtain ⟨a, xs, rfl, ha, la, ra⟩ := (m2.rp r).tupA
    have e1 := ra.length
    have rep : ∀ j : Nat, RpAll K (hide S H2) (List.replicate j xs).flatten (List.replicate j ds).flatten := fun j => by
      induction j with
      | zero => exact .nil
      | succ j ih =>
        rw [List.replicate_succ, List.replicate_succ, List.flatten_cons, List.flatten_cons]
        exact ra.app ih
    have hl : ∀ j : Nat, (List.replicate j xs).flatten.length = j * xs.length := fun j => by simp
    refine ⟨a, n, xs, rfl, rfl, seqT (hide_same _ _) ha, (fun e => by rw [e] at e1; simp at e1; omega), h.2.1, h.2.2, la, fun q hq => ?_⟩
    refine k _ _ ((m'.trans m2).then (same_upd hq)) (rp_tupNew (free_ne m2.ok hq) (rep _) hq ?_)
    rw [hl, e1, h.1]
    omega
theorem y_len {ds : List PyData} (y : Yld K S p H0 σ t (.list ds)) : Yld K S p H0 σ (tCB (rLenS K) (tCons t tNil)) (.int (ds.length : Nat)) := fun H Q m k =>
  y H _ m fun v H' m' r => by
    obtain ⟨a, xs, rfl, ha, la, ra⟩ := r.lstA
    have e1 := ra.length
    refine ⟨a, xs, rfl, .inl ((hide_same _ _).seq ha), ?_⟩
    rw [e1]
    exact k _ _ m' (.int _)
theorem y_lenT {ds : List PyData} (y : Yld K S p H0 σ t (.tuple ds)) : Yld K S p H0 σ (tCB (rLenS K) (tCons t tNil)) (.int (ds.length : Nat)) := fun H Q m k =>
  y H _ m fun v H' m' r => by
    obtain ⟨a, xs, rfl, ha, la, ra⟩ := r.tupA
    have e1 := ra.length
    refine ⟨a, xs, rfl, .inr (seqT (hide_same _ _) ha), ?_⟩
    rw [e1]
    exact k _ _ m' (.int _)
theorem y_ixT {ds : List PyData} {j : Nat} (ya : Yld K S p H0 σ ta (.tuple ds)) (yb : Yld K S p H0 σ tb (.int (j : Nat))) (h : ds[j]? = some d) : Yld K S p H0 σ (tOp (rIxT K) ta tb) d := fun H Q m k =>
  ya H _ m fun v H' m' r => yb H' _ (m.trans m') fun v2 H2 m2 r2 => by
    cases r2
    obtain ⟨a, xs, rfl, ha, la, ra⟩ := (m2.rp r).tupA
    obtain ⟨x, hx, rx⟩ := ra.getD h
    exact ⟨a, xs, (j : Nat), x, rfl, rfl, seqT (hide_same _ _) ha, at_of (j := j) rfl hx, k _ _ (m'.trans m2) rx⟩
theorem y_ixL {ds : List PyData} {j : Nat} (ya : Yld K S p H0 σ ta (.list ds)) (yb : Yld K S p H0 σ tb (.int (j : Nat))) (h : ds[j]? = some d) : Yld K S p H0 σ (tOp (rIxL K) ta tb) d := fun H Q m k =>
  ya H _ m fun v H' m' r => yb H' _ (m.trans m') fun v2 H2 m2 r2 => by
    cases r2
    obtain ⟨a, xs, rfl, ha, la, ra⟩ := (m2.rp r).lstA
    obtain ⟨x, hx, rx⟩ := ra.getD h
    exact ⟨a, xs, (j : Nat), x, rfl, rfl, (hide_same _ _).seq ha, at_of (j := j) rfl hx, k _ _ (m'.trans m2) rx⟩
theorem y_useL {Q : VK} {H : Hp} (y : Yld K S p H σ (tLst tt) d) (st : StOk H S p) (k : ∀ v H', Mv S p H H' → Rp K (hide S H') v d → Q v H') : tLst tt σ H Q := y H Q (Mv.refl st) k
theorem y_useT {Q : VK} {H : Hp} (y : Yld K S p H σ (tTup tt) d) (st : StOk H S p) (k : ∀ v H', Mv S p H H' → Rp K (hide S H') v d → Q v H') : tTup tt σ H Q := y H Q (Mv.refl st) k
theorem y_useO {r : R2} {Q : VK} {H : Hp} (y : Yld K S p H σ (tOp r ta tb) d) (st : StOk H S p) (k : ∀ v H', Mv S p H H' → Rp K (hide S H') v d → Q v H') : tOp r ta tb σ H Q := y H Q (Mv.refl st) k
/-- a list of data, and one of them drawn -/
theorem y_draw {ds : List PyData} {Q : VK} {H : Hp} (ya : Yld K S p H σ ta (.list ds)) (st : StOk H S p)
    (hb : ∀ H1 (Q1 : VK), Mv S p H H1 → (∀ (r : Int) H2, 0 ≤ r → r < (ds.length : Nat) → Mv S p H1 H2 → Q1 (.int r) H2) → tb σ H1 Q1)
    (k : ∀ v d H', d ∈ ds → Mv S p H H' → Rp K (hide S H') v d → Q v H') : tOp (rIxL K) ta tb σ H Q :=
  ya H _ (Mv.refl st) fun v H' m' r => hb H' _ m' fun z H2 h0 h1 m2 => by
    obtain ⟨a, xs, rfl, ha, la, ra⟩ := (m2.rp r).lstA
    have e1 := ra.length
    have hj : z.toNat < ds.length := by omega
    obtain ⟨x, hx, rx⟩ := ra.getD (List.getElem?_eq_getElem hj)
    exact ⟨a, xs, z, x, rfl, rfl, (hide_same _ _).seq ha, at_of (j := z.toNat) (by omega) hx, k _ _ _ (List.getElem_mem hj) (m'.trans m2) rx⟩
end
end LK
namespace LK
open PySem PySem.Spec PyProof.Rows L2
def labels (names ns : List Int) : List Int := ns.map fun x => names.getD x.toNat 0
/-- what stands behind a deed: the labels and the lists of labels -/
inductive BehK (K : PySem.W.Frag) (H : Hp) (S : Addr) (names : List Int) (rows : List (List Int)) (fresh : Int) : Int → V → List Int → List (List Int) → Prop
  | kept {v : V} {lot : List Int} : Rp K (hide S H) v (dTup lot) → (∀ x ∈ lot, 0 ≤ x ∧ x < names.length) → BehK K H S names rows fresh 0 v (labels names lot) ((rows.map fun r => r.filter fun x => decide (x ∈ labels names lot)).filter fun r => decide (1 < r.length))
  | more {v : V} {ts : List Int} : Rp K (hide S H) v (dTup ts) → (∀ x ∈ ts, 0 ≤ x ∧ x < names.length) → BehK K H S names rows fresh 1 v names (rows ++ [labels names ts])
  | less {i : Int} : 0 ≤ i → i < rows.length → BehK K H S names rows fresh 2 (.int i) names (rows.take i.toNat ++ rows.drop (i.toNat + 1))
  | beside {v : V} {m : Int} {other : List (List Int)} : Rp K (hide S H) v (bookD m other) → 0 ≤ m → m ≤ 10 → other.length ≤ 10 → BehK K H S names rows fresh 3 v (names ++ (rgI m.toNat).map fun x => fresh + x) (rows ++ other.map fun r => r.map fun x => fresh + x)
  | line {v : V} {ln : List Int} : Rp K (hide S H) v (dTup ln) → (∀ x ∈ ln, 0 ≤ x ∧ x < names.length) → BehK K H S names rows fresh 4 v (labels names ln) rows
  | mirror {v : V} : BehK K H S names rows fresh 5 v names.reverse rows
theorem new_pair {K : PySem.W.Frag} {S p t : Addr} {H H2 : Hp} {x y : V} {d e : PyData} (st : StOk H S p) (m : Mv S p H H2) (rx : Rp K (hide S H2) x d) (ry : Rp K (hide S H2) y e) (ht : H2 t = none) :
    Mv S p H (upd H2 t (.tup [x, y])) ∧ Rp K (hide S (upd H2 t (.tup [x, y]))) (.ref t) (.tuple [d, e]) := by
  have tS := free_ne m.ok ht
  refine ⟨m.put st (m.free ht), ?_⟩
  rw [hide_upd tS]
  have s1 := same_upd (H := hide S H2) (o := .tup [x, y]) (hide_free ht)
  exact .tup (SqT.of upd_same) (by show 2 ≤ 1000; decide) (.two (rx.same s1) (ry.same s1))
theorem lab_at {ns : List Int} {i : Nat} {v : V} (h : (ns.map V.int)[i]? = some v) : ∃ x, ns[i]? = some x ∧ v = .int x := by
  rw [List.getElem?_map] at h
  cases e : ns[i]? with
  | none => rw [e] at h; cases h
  | some x => rw [e] at h; exact ⟨x, rfl, (Option.some.inj h).symm⟩
section
variable {P : Program} {w : World} {K : PySem.W.Frag} {mg : Str → Option Value} {base : Heap} {ad : Nat → Addr} {fd : Nat → FuncData}
def spBehind (K : PySem.W.Frag) : Sp := fun vs H Q _ => ∃ (S p : Addr) (w : Int) (v1 v2 v3 : V) (fresh : Int) (names : List Int) (rows : List (List Int)) (names' : List Int) (rows' : List (List Int)), vs = [.int w, v1, v2, v3, .int fresh] ∧ StOk H S p ∧ Rp K (hide S H) v1 (dLst names) ∧ Rp K (hide S H) v2 (.list (rows.map dLst)) ∧
  names.length ≤ 500 ∧ rows.length ≤ 500 ∧ BehK K H S names rows fresh w v3 names' rows' ∧ ∀ z H', Mv S p H H' → Rp K (hide S H') z (.tuple [dLst names', .list (rows'.map dLst)]) → Q z H'
theorem ok__law_behind (T : Txt K mg ad fd) : FnOk P w K mg base CX0 1 (ad 60) (fd 60) ["_law_which", "_law_names", "_law_lists", "_law_one", "_law_fresh"] (spBehind K) := by
  refine T.F__law_behind.ok sc__law_behind (fun vs H Q E h => ?_) (fun cdv A outer s H vs Q E hr h => ?_)
  · obtain ⟨S, p, w, v1, v2, v3, fresh, names, rows, names', rows', rfl, _⟩ := h
    rfl
  · obtain ⟨S, p, w, v1, v2, v3, fresh, names, rows, names', rows', rfl, st, hv1, hv2, hn, hm, hb, k⟩ := h
    refine ⟨_, (pss_cons (ps_if (pt_cmpR op_eq (pv 0) pe_int (nomark _)) (pss_cons (ps_set (i := 5) sc__law_behind.nd rfl (Or.inr rfl) (pe_lc (own := [("_law_x", 7)]) (g := gName 7) rfl sc__law_behind.nd (piT K (pv 3)) (blkOk_by (N := ["_law_which", "_law_names", "_law_lists", "_law_one", "_law_fresh", "_law_kept", "_law_rows", "_law_x", "_law_row"]) (sc := defScope s__law_behind) (by decide +kernel)) (fun _ _ _ _ _ => (pg_name (i := 7) (x := "_law_x") sc__law_behind.nd rfl (Or.inl rfl))) (fun _ _ _ _ _ => pts_nil) (fun _ _ _ _ _ => (pe_ix (ixL K) (pv 1) (pv 7) (fun _ _ => rfl)))))
  (pss_cons (ps_setLc (i := 6) (own := [("_law_row", 8)]) (g := gName 8) rfl sc__law_behind.nd rfl rfl (sw_true rfl rfl rfl (by decide +kernel)) (piL K (pv 2)) (blkOk_by (N := ["_law_which", "_law_names", "_law_lists", "_law_one", "_law_fresh", "_law_kept", "_law_rows", "_law_x", "_law_row"]) (sc := defScope s__law_behind) (by decide +kernel)) (fun _ _ _ _ _ => (pg_name (i := 8) (x := "_law_row") sc__law_behind.nd rfl (Or.inl rfl))) (fun _ _ _ _ _ => pts_nil) (fun _ _ _ _ _ => (pe_lc (own := [("_law_x", 7)]) (g := gName 7) rfl sc__law_behind.nd (piS K (pv 8)) (blkOk_by (N := ["_law_which", "_law_names", "_law_lists", "_law_one", "_law_fresh", "_law_kept", "_law_rows", "_law_x", "_law_row"]) (sc := { kind := PySem.ScopeKind.function, names := [ (PySem.Str.ofString ".0", PySem.NameKind.local), (PySem.Str.ofString "_law_row", PySem.NameKind.local), (PySem.Str.ofString "_law_kept", PySem.NameKind.cell)], isGenerator := false, isCoroutine := false, more := [] : PySem.Scope }) (by decide +kernel)) (fun _ _ _ _ _ => (pg_name (i := 7) (x := "_law_x") sc__law_behind.nd rfl (Or.inl rfl))) (fun _ _ _ _ _ => (pts_one (pt_cmpR (inS K) (pv 7) (pv 5) (by with_unfolding_all rfl)))) (fun _ _ _ _ _ => (pv 7)))))
  (pss_one (ps_ret (pe_tup (pa_cons (pv 5) (pa_cons (pe_lc (own := [("_law_row", 8)]) (g := gName 8) rfl sc__law_behind.nd (piL K (pv 6)) (blkOk_by (N := ["_law_which", "_law_names", "_law_lists", "_law_one", "_law_fresh", "_law_kept", "_law_rows", "_law_x", "_law_row"]) (sc := defScope s__law_behind) (by decide +kernel)) (fun _ _ _ _ _ => (pg_name (i := 8) (x := "_law_row") sc__law_behind.nd rfl (Or.inl rfl))) (fun _ _ _ _ _ => (pts_one (pt_cmpR op_gt (pe_callB (lenS K) (by rfl) T.g_len (by decide +kernel) (pa_cons (pv 8) pa_nil)) pe_int (nomark _)))) (fun _ _ _ _ _ => (pv 8))) pa_nil)))))))
  pss_nil)
  (pss_cons (ps_if (pt_cmpR op_eq (pv 0) pe_int (nomark _)) (pss_one (ps_ret (pe_tup (pa_cons (pv 1) (pa_cons (pe_op (catL K) (pv 2) (pe_lst (pa_cons (pe_lc (own := [("_law_x", 7)]) (g := gName 7) rfl sc__law_behind.nd (piT K (pv 3)) (blkOk_by (N := ["_law_which", "_law_names", "_law_lists", "_law_one", "_law_fresh", "_law_kept", "_law_rows", "_law_x", "_law_row"]) (sc := defScope s__law_behind) (by decide +kernel)) (fun _ _ _ _ _ => (pg_name (i := 7) (x := "_law_x") sc__law_behind.nd rfl (Or.inl rfl))) (fun _ _ _ _ _ => pts_nil) (fun _ _ _ _ _ => (pe_ix (ixL K) (pv 1) (pv 7) (fun _ _ => rfl)))) pa_nil))) pa_nil)))))
  pss_nil)
  (pss_cons (ps_if (pt_cmpR op_eq (pv 0) pe_int (nomark _)) (pss_one (ps_ret (pe_tup (pa_cons (pv 1) (pa_cons (pe_op (catL K) (pe_slice (slL K) (pv 2) po_none (po_some (pv 3))) (pe_slice (slL K) (pv 2) (po_some (pe_op op_add (pv 3) pe_int)) po_none)) pa_nil)))))
  pss_nil)
  (pss_cons (ps_if (pt_cmpR op_eq (pv 0) pe_int (nomark _)) (pss_one (ps_ret (pe_tup (pa_cons (pe_op (catL K) (pv 1) (pe_lc (own := [("_law_x", 7)]) (g := gName 7) rfl sc__law_behind.nd (pi_range1 rfl T.g_range (pa_cons (pe_ix (ixT K) (pv 3) pe_int (fun _ _ => rfl)) pa_nil)) (blkOk_by (N := ["_law_which", "_law_names", "_law_lists", "_law_one", "_law_fresh", "_law_kept", "_law_rows", "_law_x", "_law_row"]) (sc := defScope s__law_behind) (by decide +kernel)) (fun _ _ _ _ _ => (pg_name (i := 7) (x := "_law_x") sc__law_behind.nd rfl (Or.inl rfl))) (fun _ _ _ _ _ => pts_nil) (fun _ _ _ _ _ => (pe_op op_add (pv 4) (pv 7))))) (pa_cons (pe_op (catL K) (pv 2) (pe_lc (own := [("_law_row", 8)]) (g := gName 8) rfl sc__law_behind.nd (piT K (pe_ix (ixT K) (pv 3) pe_int (fun _ _ => rfl))) (blkOk_by (N := ["_law_which", "_law_names", "_law_lists", "_law_one", "_law_fresh", "_law_kept", "_law_rows", "_law_x", "_law_row"]) (sc := defScope s__law_behind) (by decide +kernel)) (fun _ _ _ _ _ => (pg_name (i := 8) (x := "_law_row") sc__law_behind.nd rfl (Or.inl rfl))) (fun _ _ _ _ _ => pts_nil) (fun _ _ _ _ _ => (pe_lc (own := [("_law_x", 7)]) (g := gName 7) rfl sc__law_behind.nd (piS K (pv 8)) (blkOk_by (N := ["_law_which", "_law_names", "_law_lists", "_law_one", "_law_fresh", "_law_kept", "_law_rows", "_law_x", "_law_row"]) (sc := { kind := PySem.ScopeKind.function, names := [ (PySem.Str.ofString ".0", PySem.NameKind.local), (PySem.Str.ofString "_law_row", PySem.NameKind.local), (PySem.Str.ofString "_law_fresh", PySem.NameKind.cell)], isGenerator := false, isCoroutine := false, more := [] : PySem.Scope }) (by decide +kernel)) (fun _ _ _ _ _ => (pg_name (i := 7) (x := "_law_x") sc__law_behind.nd rfl (Or.inl rfl))) (fun _ _ _ _ _ => pts_nil) (fun _ _ _ _ _ => (pe_op op_add (pv 4) (pv 7))))))) pa_nil)))))
  pss_nil)
  (pss_cons (ps_if (pt_cmpR op_eq (pv 0) pe_int (nomark _)) (pss_one (ps_ret (pe_tup (pa_cons (pe_lc (own := [("_law_x", 7)]) (g := gName 7) rfl sc__law_behind.nd (piT K (pv 3)) (blkOk_by (N := ["_law_which", "_law_names", "_law_lists", "_law_one", "_law_fresh", "_law_kept", "_law_rows", "_law_x", "_law_row"]) (sc := defScope s__law_behind) (by decide +kernel)) (fun _ _ _ _ _ => (pg_name (i := 7) (x := "_law_x") sc__law_behind.nd rfl (Or.inl rfl))) (fun _ _ _ _ _ => pts_nil) (fun _ _ _ _ _ => (pe_ix (ixL K) (pv 1) (pv 7) (fun _ _ => rfl)))) (pa_cons (pv 2) pa_nil)))))
  pss_nil)
  (pss_one (ps_ret (pe_tup (pa_cons (pe_revL (pv 1)) (pa_cons (pv 2) pa_nil)))))))))), ?_⟩
    obtain ⟨a, rfl, ta⟩ := (rp_show hv1).lstI
    obtain ⟨L, xs, rfl, hL0, hz, hr0⟩ := hv2.lstA
    have hL : SqL K H L xs := (hide_same S H).seq hL0
    have hr2 := hr0.same (hide_same S H)
    have lx : xs.length = rows.length := by rw [hr2.length, List.length_map]
    cases hb with
    | @kept v lot hv hin =>
      obtain ⟨b, rfl, tb⟩ := (rp_show hv).tupI
      refine ⟨_, rfl, rfl, _, rfl, iteT ⟨_, rfl, b, rfl, ⟨_, tb.1⟩, fun D hD => ?_⟩⟩
      refine lcT (K := K) (xs := lot.map V.int) (fun _ => true) (fun j => .int (names.getD (lot.getD j 0).toNat 0)) hD tb.1 (by rw [List.length_map]; exact tb.2) (fun _ _ _ => rfl) (fun j v H3 hj s3 Q3 Q4 k3 k4 => ?_) (fun zs H3 s3 hz3 r3 => ?_)
      · obtain ⟨i, hi, rfl⟩ := lab_at hj
        have hb := hin i (List.mem_of_getElem? hi)
        have eg : lot.getD j 0 = i := by rw [List.getD_eq_getElem?_getD, hi]; rfl
        rw [eg] at k3
        exact ⟨rfl, _, rfl, _, rfl, a, _, _, _, rfl, rfl, (ta.same s3).1, at_of (j := i.toNat) (by omega) (mapD (by omega)), k3 rfl _ _ (Same.refl _) (.int _)⟩
      · rw [filter_true] at r3
        have ez : (List.range (lot.map V.int).length).map (fun j => PyData.int (names.getD (lot.getD j 0).toNat 0)) = (labels names lot).map PyData.int := by
          rw [List.length_map]
          unfold labels
          rw [List.map_map]
          exact map_range (fun x : Int => PyData.int (names.getD x.toNat 0)) 0 lot
        rw [ez] at r3
        have := r3.ofInts
        subst this
        have DS := free_ne st hD
        have m1 := (Mv.refl st).then s3
        have lk : (labels names lot).length ≤ 1000 := by unfold labels; rw [List.length_map]; exact tb.2
        generalize hkk : labels names lot = kk at *
        refine ⟨_, rfl, L, rfl, ⟨_, s3.seq hL⟩, fun D2 hD2 => ?_⟩
        have D2S := free_ne m1.ok hD2
        refine lcLS (K := K) S (xs := xs) (fun _ => true) (fun j => dLst ((rows.getD j []).filter fun x => decide (x ∈ kk))) hD2 (s3.seq hL) hz (fun j v H4 hj s4 hex Q3 Q4 k3 k4 => ?_) (fun ys H4 s4 hy ly r4 => ?_)
        · obtain ⟨ns, b2, hn2, rfl, t⟩ := hr2.rowL hj
          have t := t.same (s3.trans s4)
          have en : rows.getD j [] = ns := by rw [List.getD_eq_getElem?_getD, hn2]; rfl
          rw [en] at k3
          refine ⟨rfl, _, rfl, b2, rfl, .inl ⟨⟨_, t.1⟩, fun D3 hD3 => ?_⟩⟩
          refine lcL (K := K) (xs := ns.map V.int) (fun j => decide (ns.getD j 0 ∈ kk)) (fun j => .int (ns.getD j 0)) hD3 t.1 (by rw [List.length_map]; exact t.2) (fun _ _ _ => rfl) (fun z v H5 hz5 s5 Q5 Q6 k5 k6 => ?_) (fun zs H5 s5 hz6 r5 => ?_)
          · obtain ⟨i, hi, rfl⟩ := lab_at hz5
            have eg : ns.getD z 0 = i := by rw [List.getD_eq_getElem?_getD, hi]; rfl
            rw [eg] at k5 k6
            refine ⟨rfl, _, rfl, _, rfl, D, _, rfl, .inl (SqL.of ((s4.trans s5) _ _ hz3)), rfl, flat_ints kk, _, rfl, ?_⟩
            show if inV (.int i) (kk.map V.int) = true then _ else _
            rw [inV_int]
            cases c : decide (i ∈ kk) with
            | false => exact iteF (k6 c _ (Same.refl _))
            | true => exact iteT ⟨_, rfl, k5 c _ _ (Same.refl _) (.int _)⟩
          · have ez2 : ((List.range (ns.map V.int).length).filter fun j => decide (ns.getD j 0 ∈ kk)).map (fun j => PyData.int (ns.getD j 0)) = (ns.filter fun x => decide (x ∈ kk)).map PyData.int := by
              rw [List.length_map]
              exact filter_map_range (fun x : Int => decide (x ∈ kk)) PyData.int 0 ns
            rw [ez2] at r5
            have := r5.ofInts
            subst this
            have D3S : D3 ≠ S := free_ne (m1.then s4).ok hD3
            have D3D : D3 ≠ D2 := fun e => by
              obtain ⟨zz, he⟩ := hex
              rw [e, he] at hD3
              cases hD3
            exact k3 rfl _ _ s5 (LstI.rp ⟨SqL.of (by rw [hide_ne D3D, hide_ne D3S]; exact hz6), Nat.le_trans (List.length_filter_le _ _) t.2⟩)
        · rw [filter_true] at r4
          have ez2 : (List.range xs.length).map (fun j => dLst ((rows.getD j []).filter fun x => decide (x ∈ kk))) = (rows.map fun r => r.filter fun x => decide (x ∈ kk)).map dLst := by
            rw [lx, List.map_map]
            exact map_range (fun r : List Int => dLst (r.filter fun x => decide (x ∈ kk))) [] rows
          rw [ez2] at r4
          have r5 : RpAll K (hide S H4) ys _ := r4.same (hide_same _ _)
          have lr : (rows.map fun r => r.filter fun x => decide (x ∈ kk)).length = xs.length := by rw [List.length_map, lx]
          generalize hrr : (rows.map fun r => r.filter fun x => decide (x ∈ kk)) = rr at *
          have lyr : ys.length = rr.length := by rw [r5.length, List.length_map]
          have m2 := m1.then s4
          dsimp only [tNoPart]
          refine ⟨_, rfl, _, rfl, D2, rfl, ⟨_, SqL.of hy⟩, fun D4 hD4 => ?_⟩
          have D4S := free_ne m2.ok hD4
          refine lcLV (K := K) (xs := ys) (fun j => decide (1 < (rr.getD j []).length)) (fun j => ys.getD j .non) hD4 (SqL.of hy) (by omega) (fun j v H5 hj s5 Q5 Q6 k5 k6 => ?_) (fun H5 s5 hy5 => ?_)
          · obtain ⟨ns, b3, hn3, rfl, t3⟩ := (r5.same (hide_same _ _)).rowL hj
            have t3 := t3.same s5
            have en : rr.getD j [] = ns := by rw [List.getD_eq_getElem?_getD, hn3]; rfl
            have ex : ys.getD j .non = .ref b3 := by rw [List.getD_eq_getElem?_getD, hj]; rfl
            rw [en] at k5 k6
            rw [ex] at k5
            refine ⟨rfl, _, rfl, b3, _, rfl, .inl t3.1, _, _, rfl, rfl, _, rfl, ?_⟩
            have ec : decide ((1 : Int) < (((ns.map V.int).length : Nat) : Int)) = decide (1 < ns.length) := by
              rw [List.length_map]
              congr 1
              apply propext
              omega
            show if decide ((1 : Int) < (((ns.map V.int).length : Nat) : Int)) = true then _ else _
            rw [ec]
            cases c : decide (1 < ns.length) with
            | false => exact iteF (k6 c _ (Same.refl _))
            | true => exact iteT ⟨_, rfl, k5 c _ (Same.refl _)⟩
          · have hall : ∀ j ∈ (List.range ys.length).filter (fun j => decide (1 < (rr.getD j []).length)), j < ys.length := fun j hj => List.mem_range.mp (List.mem_filter.mp hj).1
            have hR := (r5.same (hide_mono s5)).pick (fun _ => true) _ hall
            have eR : (((List.range ys.length).filter (fun j => decide (1 < (rr.getD j []).length))).map fun j => (rr.map dLst).getD j .none) = (rr.filter fun r => decide (1 < r.length)).map dLst := by
              rw [← pick_rows (fun r => decide (1 < r.length)) [] rr, ← lyr, List.map_map]
              refine List.map_congr_left fun j hj => ?_
              have hj2 : j < rr.length := by rw [← lyr]; exact hall j hj
              show (rr.map dLst).getD j .none = dLst (rr.getD j [])
              rw [List.getD_eq_getElem?_getD, List.getD_eq_getElem?_getD, List.getElem?_map, List.getElem?_eq_getElem hj2]
              rfl
            rw [eR] at hR
            have hl4 : (((List.range ys.length).filter (fun j => decide (1 < (rr.getD j []).length))).map fun j => ys.getD j .non).length ≤ 1000 := by
              rw [List.length_map]
              exact Nat.le_trans (List.length_filter_le _ _) (by rw [List.length_range]; omega)
            have m3 := m2.then s5
            refine ⟨(by show 2 ≤ sizeLine; decide), fun t ht => ?_⟩
            have rD : Rp K (hide S H5) (.ref D) (dLst kk) := LstI.rp ⟨SqL.of (by rw [hide_ne DS]; exact (s4.trans s5) _ _ hz3), lk⟩
            obtain ⟨m4, r2⟩ := new_pair (K := K) (x := .ref D) (y := .ref D4) (e := .list ((rr.filter fun r : List Int => decide (1 < r.length)).map dLst)) st m3 rD (.lst (SqL.of (by rw [hide_ne D4S]; exact hy5)) hl4 hR) ht
            exact k _ _ m4 r2
    | @more v ts hv hin =>
      obtain ⟨b, rfl, tb⟩ := (rp_show hv).tupI
      refine ⟨_, rfl, rfl, _, rfl, iteF ⟨_, rfl, rfl, _, rfl, iteT ⟨_, rfl, _, rfl, _, rfl, b, rfl, ⟨_, tb.1⟩, fun D hD => ?_⟩⟩⟩
      refine lcT (K := K) (xs := ts.map V.int) (fun _ => true) (fun j => .int (names.getD (ts.getD j 0).toNat 0)) hD tb.1 (by rw [List.length_map]; exact tb.2) (fun _ _ _ => rfl) (fun j v H3 hj s3 Q3 Q4 k3 k4 => ?_) (fun zs H3 s3 hz3 r3 => ?_)
      · obtain ⟨i, hi, rfl⟩ := lab_at hj
        have hb := hin i (List.mem_of_getElem? hi)
        have eg : ts.getD j 0 = i := by rw [List.getD_eq_getElem?_getD, hi]; rfl
        rw [eg] at k3
        exact ⟨rfl, _, rfl, _, rfl, a, _, _, _, rfl, rfl, (ta.same s3).1, at_of (j := i.toNat) (by omega) (mapD (by omega)), k3 rfl _ _ (Same.refl _) (.int _)⟩
      · rw [filter_true] at r3
        have ez : (List.range (ts.map V.int).length).map (fun j => PyData.int (names.getD (ts.getD j 0).toNat 0)) = (labels names ts).map PyData.int := by
          rw [List.length_map]
          unfold labels
          rw [List.map_map]
          exact map_range (fun x : Int => PyData.int (names.getD x.toNat 0)) 0 ts
        rw [ez] at r3
        have := r3.ofInts
        subst this
        have DS := free_ne st hD
        have m1 := (Mv.refl st).then s3
        dsimp only [tNil]
        refine ⟨(by show 1 ≤ sizeLine; decide), fun q1 hq1 => ?_⟩
        have s4 := same_upd (o := .lst [V.ref D]) hq1
        have q1S := free_ne m1.ok hq1
        refine ⟨L, q1, xs, [.ref D], rfl, rfl, (s3.trans s4).seq hL, SqL.of upd_same, by show _ + 1 ≤ 2000; omega, fun q3 hq3 => ?_⟩
        have s5 := same_upd (o := .lst (xs ++ [V.ref D])) hq3
        have m2 := m1.then (s4.trans s5)
        have q3S := free_ne (m1.then s4).ok hq3
        have rD : Rp K (hide S H3) (.ref D) (dLst (labels names ts)) := LstI.rp ⟨SqL.of (by rw [hide_ne DS]; exact hz3), by unfold labels; rw [List.length_map]; exact tb.2⟩
        have rA := (m2.all hr0).app (.one (rD.same (hide_mono (s4.trans s5))))
        have eA : rows.map dLst ++ [dLst (labels names ts)] = (rows ++ [labels names ts]).map dLst := by rw [List.map_append]; rfl
        rw [eA] at rA
        refine ⟨(by show 2 ≤ sizeLine; decide), fun t ht => ?_⟩
        obtain ⟨m3, r2⟩ := new_pair (K := K) (x := .ref a) (y := .ref q3) (e := .list ((rows ++ [labels names ts]).map dLst)) st m2 (m2.rp hv1) (.lst (SqL.of (by rw [hide_ne q3S, upd_same])) (by rw [rA.length, List.length_map, List.length_append, List.length_singleton]; omega) rA) ht
        exact k _ _ m3 r2
    | @less i h0 h1 =>
      refine ⟨_, rfl, rfl, _, rfl, iteF ⟨_, rfl, rfl, _, rfl, iteF ⟨_, rfl, rfl, _, rfl, iteT ⟨_, rfl, _, rfl, ?_⟩⟩⟩⟩
      dsimp only [tNoPart]
      refine ⟨_, rfl, _, rfl, L, _, rfl, hL, fun q1 hq1 => ?_⟩
      have e1 : (i + 1).toNat = i.toNat + 1 := by omega
      have c1 : cutV xs none (some i) = xs.take i.toNat := cut_takeZ h0
      have c2 : cutV xs (some (i + 1)) none = xs.drop (i.toNat + 1) := by rw [cut_drop (by omega) (by omega), e1]
      rw [c1]
      have s1 := same_upd (o := .lst (xs.take i.toNat)) hq1
      refine ⟨_, rfl, _, rfl, _, _, rfl, rfl, _, rfl, ?_⟩
      dsimp only [tNoPart]
      refine ⟨L, _, rfl, s1.seq hL, fun q2 hq2 => ?_⟩
      rw [c2]
      have s2 := same_upd (o := .lst (xs.drop (i.toNat + 1))) hq2
      refine ⟨q1, q2, _, _, rfl, rfl, SqL.of (s2 _ _ upd_same), SqL.of upd_same, ?_, fun q3 hq3 => ?_⟩
      · rw [List.length_take, List.length_drop]
        omega
      have s3 := same_upd (o := .lst (xs.take i.toNat ++ xs.drop (i.toNat + 1))) hq3
      have s13 := s1.trans (s2.trans s3)
      have m1 := (Mv.refl st).then s13
      have qS := free_ne ((Mv.refl st).then (s1.trans s2)).ok hq3
      refine ⟨(by show 2 ≤ sizeLine; decide), fun t ht => ?_⟩
      have rA := (hr0.same m1.same)
      have rB := (RpAll.take i.toNat rA).app (RpAll.drop (i.toNat + 1) rA)
      rw [← List.map_take, ← List.map_drop, ← List.map_append] at rB
      obtain ⟨m2, r2⟩ := new_pair (K := K) (x := .ref a) (y := .ref q3) (e := .list ((rows.take i.toNat ++ rows.drop (i.toNat + 1)).map dLst)) st m1 (m1.rp hv1) (.lst (SqL.of (by rw [hide_ne qS, upd_same])) (by rw [rB.length, List.length_map, List.length_append, List.length_take, List.length_drop]; omega) rB) ht
      exact k _ _ m2 r2
    | @beside v m other hv h0 h1 h2 =>
      obtain ⟨b, ws, rfl, hb, hzb, rb⟩ := (rp_show hv).tupA
      cases rb with
      | cons rb0 rb =>
      cases rb0
      cases rb with
      | cons rb1 rb =>
      cases rb
      obtain ⟨U, us, rfl, hU, hzU, rU⟩ := rb1.tupA
      have lu : us.length = other.length := by rw [rU.length, List.length_map]
      refine ⟨_, rfl, rfl, _, rfl, iteF ⟨_, rfl, rfl, _, rfl, iteF ⟨_, rfl, rfl, _, rfl, iteF ⟨_, rfl, rfl, _, rfl, iteT ⟨_, rfl, ?_⟩⟩⟩⟩⟩
      refine ⟨_, rfl, b, _, _, _, rfl, rfl, hb, rfl, _, rfl, ?_, ?_, fun D hD => ?_⟩
      · omega
      · omega
      refine lcR (K := K) (lo := 0) (n := m.toNat) (fun _ => true) (fun j => .int (fresh + (j : Nat))) hD (by omega) (fun _ _ _ => rfl) (fun j H3 hj s3 Q3 Q4 k3 k4 => ?_) (fun zs H3 s3 hz3 r3 => ?_)
      · refine ⟨rfl, _, rfl, _, rfl, _, _, rfl, rfl, k3 rfl _ _ (Same.refl _) ?_⟩
        have e1 : fresh + (0 + (j : Nat)) = fresh + (j : Nat) := by omega
        show Rp K H3 (.int (fresh + (0 + (j : Nat)))) _
        rw [e1]
        exact .int _
      · rw [filter_true] at r3
        have ez : (List.range m.toNat).map (fun j => PyData.int (fresh + (j : Nat))) = ((rgI m.toNat).map fun x => fresh + x).map PyData.int := by
          unfold rgI
          rw [List.map_map, List.map_map]
          rfl
        rw [ez] at r3
        have := r3.ofInts
        subst this
        have lfr : ((rgI m.toNat).map fun x => fresh + x).length = m.toNat := by rw [List.length_map, rgI_length]
        generalize hfr : ((rgI m.toNat).map fun x => fresh + x) = fr at *
        have DS := free_ne st hD
        have m1 := (Mv.refl st).then s3
        refine ⟨a, D, _, _, rfl, rfl, (ta.same s3).1, SqL.of hz3, ?_, fun q1 hq1 => ?_⟩
        · rw [List.length_map, List.length_map]
          omega
        have s4 := same_upd (o := .lst (names.map V.int ++ fr.map V.int)) hq1
        have q1S := free_ne m1.ok hq1
        have m2 := m1.then s4
        have s34 := s3.trans s4
        refine ⟨_, rfl, _, rfl, b, _, _, _, rfl, rfl, seqT s34 hb, rfl, U, rfl, ⟨_, seqT s34 hU⟩, fun D2 hD2 => ?_⟩
        have D2S := free_ne m2.ok hD2
        refine lcTS (K := K) S (xs := us) (fun _ => true) (fun j => dLst ((other.getD j []).map fun x => fresh + x)) hD2 (seqT s34 hU) hzU (fun j v H4 hj s5 hex Q3 Q4 k3 k4 => ?_) (fun ys H4 s5 hy ly r4 => ?_)
        · obtain ⟨d, hd, rd⟩ := rU.get hj
          rw [List.getElem?_map] at hd
          cases e : other[j]? with
          | none => rw [e] at hd; cases hd
          | some ns =>
          rw [e] at hd
          have ed := (Option.some.inj hd).symm
          subst ed
          obtain ⟨b2, rfl, t⟩ := rd.tupI
          have t := t.same (s34.trans s5)
          have en : other.getD j [] = ns := by rw [List.getD_eq_getElem?_getD, e]; rfl
          rw [en] at k3
          refine ⟨rfl, _, rfl, b2, rfl, .inr ⟨⟨_, t.1⟩, fun D3 hD3 => ?_⟩⟩
          refine lcT (K := K) (xs := ns.map V.int) (fun _ => true) (fun j => .int (fresh + ns.getD j 0)) hD3 t.1 (by rw [List.length_map]; exact t.2) (fun _ _ _ => rfl) (fun z v H5 hz5 s6 Q5 Q6 k5 k6 => ?_) (fun zs H5 s6 hz6 r5 => ?_)
          · obtain ⟨i, hi, rfl⟩ := lab_at hz5
            have eg : ns.getD z 0 = i := by rw [List.getD_eq_getElem?_getD, hi]; rfl
            rw [eg] at k5
            exact ⟨rfl, _, rfl, _, rfl, _, _, rfl, rfl, k5 rfl _ _ (Same.refl _) (.int _)⟩
          · rw [filter_true] at r5
            have ez2 : (List.range (ns.map V.int).length).map (fun j => PyData.int (fresh + ns.getD j 0)) = (ns.map fun x => fresh + x).map PyData.int := by
              rw [List.length_map, List.map_map]
              exact map_range (fun x : Int => PyData.int (fresh + x)) 0 ns
            rw [ez2] at r5
            have := r5.ofInts
            subst this
            have D3S : D3 ≠ S := free_ne (m2.then s5).ok hD3
            have D3D : D3 ≠ D2 := fun e => by
              obtain ⟨zz, he⟩ := hex
              rw [e, he] at hD3
              cases hD3
            exact k3 rfl _ _ s6 (LstI.rp ⟨SqL.of (by rw [hide_ne D3D, hide_ne D3S]; exact hz6), by rw [List.length_map]; exact t.2⟩)
        · rw [filter_true] at r4
          have ez2 : (List.range us.length).map (fun j => dLst ((other.getD j []).map fun x => fresh + x)) = (other.map fun r => r.map fun x => fresh + x).map dLst := by
            rw [lu, List.map_map]
            exact map_range (fun r : List Int => dLst (r.map fun x => fresh + x)) [] other
          rw [ez2] at r4
          have r5 : RpAll K (hide S H4) ys _ := r4.same (hide_same _ _)
          have lor : (other.map fun r => r.map fun x => fresh + x).length = other.length := List.length_map _
          generalize hrr : (other.map fun r => r.map fun x => fresh + x) = rr at *
          have lyr : ys.length = rr.length := by rw [r5.length, List.length_map]
          have m3 := m2.then s5
          refine ⟨L, D2, xs, ys, rfl, rfl, (s34.trans s5).seq hL, SqL.of hy, by omega, fun q3 hq3 => ?_⟩
          have s6 := same_upd (o := .lst (xs ++ ys)) hq3
          have q3S := free_ne m3.ok hq3
          have m4 := m3.then s6
          refine ⟨(by show 2 ≤ sizeLine; decide), fun t ht => ?_⟩
          have rN := (LstI.rp (K := K) (H := hide S (upd H3 q1 (.lst (names.map V.int ++ fr.map V.int)))) (a := q1) (ns := names ++ fr) ⟨SqL.of (by rw [hide_ne q1S, upd_same, List.map_append]), by rw [List.length_append]; omega⟩).same (hide_mono (s5.trans s6))
          have rA := (m4.all hr0).app (r5.same (hide_mono s6))
          rw [← List.map_append] at rA
          obtain ⟨m5, r6⟩ := new_pair (K := K) (x := .ref q1) (y := .ref q3) (e := .list ((rows ++ rr).map dLst)) st m4 rN (.lst (SqL.of (by rw [hide_ne q3S, upd_same])) (by rw [List.length_append]; omega) rA) ht
          exact k _ _ m5 r6
    | @line v ln hv hin =>
      obtain ⟨b, rfl, tb⟩ := (rp_show hv).tupI
      refine ⟨_, rfl, rfl, _, rfl, iteF ⟨_, rfl, rfl, _, rfl, iteF ⟨_, rfl, rfl, _, rfl, iteF ⟨_, rfl, rfl, _, rfl, iteF ⟨_, rfl, rfl, _, rfl, iteT ⟨_, rfl, b, rfl, ⟨_, tb.1⟩, fun D hD => ?_⟩⟩⟩⟩⟩⟩
      refine lcT (K := K) (xs := ln.map V.int) (fun _ => true) (fun j => .int (names.getD (ln.getD j 0).toNat 0)) hD tb.1 (by rw [List.length_map]; exact tb.2) (fun _ _ _ => rfl) (fun j v H3 hj s3 Q3 Q4 k3 k4 => ?_) (fun zs H3 s3 hz3 r3 => ?_)
      · obtain ⟨i, hi, rfl⟩ := lab_at hj
        have hb := hin i (List.mem_of_getElem? hi)
        have eg : ln.getD j 0 = i := by rw [List.getD_eq_getElem?_getD, hi]; rfl
        rw [eg] at k3
        exact ⟨rfl, _, rfl, _, rfl, a, _, _, _, rfl, rfl, (ta.same s3).1, at_of (j := i.toNat) (by omega) (mapD (by omega)), k3 rfl _ _ (Same.refl _) (.int _)⟩
      · rw [filter_true] at r3
        have ez : (List.range (ln.map V.int).length).map (fun j => PyData.int (names.getD (ln.getD j 0).toNat 0)) = (labels names ln).map PyData.int := by
          rw [List.length_map]
          unfold labels
          rw [List.map_map]
          exact map_range (fun x : Int => PyData.int (names.getD x.toNat 0)) 0 ln
        rw [ez] at r3
        have := r3.ofInts
        subst this
        have DS := free_ne st hD
        have m1 := (Mv.refl st).then s3
        refine ⟨_, rfl, (by show 2 ≤ sizeLine; decide), fun t ht => ?_⟩
        obtain ⟨m2, r2⟩ := new_pair (K := K) (x := .ref D) (y := .ref L) (d := dLst (labels names ln)) st m1 (LstI.rp ⟨SqL.of (by rw [hide_ne DS]; exact hz3), by unfold labels; rw [List.length_map]; exact tb.2⟩) (m1.rp hv2) ht
        exact k _ _ m2 r2
    | mirror =>
      refine ⟨_, rfl, rfl, _, rfl, iteF ⟨_, rfl, rfl, _, rfl, iteF ⟨_, rfl, rfl, _, rfl, iteF ⟨_, rfl, rfl, _, rfl, iteF ⟨_, rfl, rfl, _, rfl, iteF ⟨_, rfl, a, _, rfl, ta.1, fun q hq => ?_⟩⟩⟩⟩⟩⟩
      have s1 := same_upd (o := .lst (names.map V.int).reverse) hq
      have qS := free_ne st hq
      have m1 := (Mv.refl st).then s1
      refine ⟨_, rfl, (by show 2 ≤ sizeLine; decide), fun t ht => ?_⟩
      obtain ⟨m2, r2⟩ := new_pair (K := K) (x := .ref q) (y := .ref L) (d := dLst names.reverse) st m1 (LstI.rp ⟨SqL.of (by rw [hide_ne qS, upd_same, List.map_reverse]), by rw [List.length_reverse]; exact ta.2⟩) (m1.rp hv2) ht
      exact k _ _ m2 r2
end
end LK
/-! books of labels: what each deed makes of them -/
namespace LK
open PySem PySem.Spec PyProof.Rows L2
def idx (names : List Int) (x : Int) : Int := ((names.idxOf x : Nat) : Int)
theorem renum_eq (names : List Int) (rows : List (List Int)) : renum names rows = rows.map fun r => srt (r.map (idx names)) := rfl
theorem idx_in {names : List Int} {x : Int} (h : x ∈ names) : 0 ≤ idx names x ∧ idx names x < names.length := by
  have := List.idxOf_lt_length_of_mem h
  unfold idx
  omega
theorem lab_idx {names : List Int} {x : Int} (h : x ∈ names) : names.getD (idx names x).toNat 0 = x := by
  have hl := List.idxOf_lt_length_of_mem h
  have e : (idx names x).toNat = names.idxOf x := by unfold idx; omega
  rw [e, List.getD_eq_getElem?_getD, List.getElem?_eq_getElem hl, Option.getD_some, List.getElem_idxOf hl]
theorem idx_lab {names : List Int} (nd : names.Nodup) {i : Int} (h0 : 0 ≤ i) (h1 : i < names.length) : idx names (names.getD i.toNat 0) = i := by
  have hl : i.toNat < names.length := by omega
  unfold idx
  rw [List.getD_eq_getElem?_getD, List.getElem?_eq_getElem hl, Option.getD_some, nd.idxOf_getElem _ hl]
  omega
theorem lab_mem {names : List Int} {i : Int} (h0 : 0 ≤ i) (h1 : i < names.length) : names.getD i.toNat 0 ∈ names := by
  have hl : i.toNat < names.length := by omega
  rw [List.getD_eq_getElem?_getD, List.getElem?_eq_getElem hl]
  exact List.getElem_mem hl
theorem srt_congr {l l' : List Int} (p : l.Perm l') : srt l = srt l' := srt_eq ((srt_perm l).trans p) (srt_pw l)
theorem mem_srt {l : List Int} {x : Int} : x ∈ srt l ↔ x ∈ l := (srt_perm l).mem_iff
theorem nodup_map {f : Int → Int} : ∀ {l : List Int}, (∀ x ∈ l, ∀ y ∈ l, f x = f y → x = y) → l.Nodup → (l.map f).Nodup
  | [], _, _ => List.nodup_nil
  | a :: l, inj, nd => by
    have h := List.nodup_cons.mp nd
    rw [List.map_cons]
    refine List.nodup_cons.mpr ⟨fun z => ?_, nodup_map (fun x hx y hy => inj x (by simp [hx]) y (by simp [hy])) h.2⟩
    obtain ⟨y, hy, e⟩ := List.mem_map.mp z
    have := inj y (by simp [hy]) a (by simp) e
    subst this
    exact h.1 hy
theorem idx_inj {names : List Int} {x y : Int} (hx : x ∈ names) (hy : y ∈ names) (e : idx names x = idx names y) : x = y := by rw [← lab_idx hx, e, lab_idx hy]
theorem rising_of : ∀ {l : List Int}, l.Pairwise (· ≤ ·) → l.Nodup → rising l = true
  | [], _, _ => rfl
  | [_], _, _ => rfl
  | a :: b :: r, pw, nd => by
    have h1 := List.pairwise_cons.mp pw
    have h2 := List.nodup_cons.mp nd
    have hab := h1.1 b (by simp)
    have hne : a ≠ b := fun e => h2.1 (by rw [e]; simp)
    show (decide (a < b) && rising (b :: r)) = true
    rw [rising_of h1.2 h2.2, decide_eq_true (by omega)]
    rfl
/-- a list of labels -/
def LabRow (names r : List Int) : Prop := r.Nodup ∧ 2 ≤ r.length ∧ ∀ x ∈ r, x ∈ names
/-- labels, and lists of them -/
structure LabOk (names : List Int) (rows : List (List Int)) (B : Int) : Prop where
  nd : names.Nodup
  l0 : 1 ≤ names.length
  l1 : names.length ≤ 40
  row : ∀ r ∈ rows, LabRow names r
  bnd : ∀ x ∈ names, 0 ≤ x ∧ x < B
section
variable {names : List Int} {rows : List (List Int)} {B : Int}
theorem LabRow.good {r : List Int} (nd : names.Nodup) (h : LabRow names r) : GoodRow names.length (srt (r.map (idx names))) := by
  refine ⟨by rw [srt_length, List.length_map]; exact h.2.1, rising_of (srt_pw _) ?_, fun x hx => ?_⟩
  · exact (List.Perm.nodup_iff (srt_perm _)).mpr (nodup_map (fun x hx y hy e => idx_inj (h.2.2 x hx) (h.2.2 y hy) e) h.1)
  · obtain ⟨y, hy, rfl⟩ := List.mem_map.mp (mem_srt.mp hx)
    exact idx_in (h.2.2 y hy)
theorem LabOk.good (h : LabOk names rows B) : ∀ r ∈ renum names rows, GoodRow names.length r := fun r hr => by
  obtain ⟨s, hs, rfl⟩ := List.mem_map.mp hr
  exact (h.row s hs).good h.nd
theorem LabOk.rin (h : LabOk names rows B) : RowsIn names.length (renum names rows) := fun r hr => (h.good r hr).2.2
theorem LabOk.q (h : LabOk names rows B) : QOk names.length (renum names rows) (byNames names rows) := fun i j hi hj => by
  unfold byNames tiedB renum
  rw [List.any_map]
  have key : ∀ (r : List Int), r ∈ rows → ∀ i : Nat, i < names.length → (names.getD i 0 ∈ r ↔ (i : Int) ∈ srt (r.map (idx names))) := fun r hr i hi => by
    rw [mem_srt, List.mem_map]
    have e : ((i : Int)).toNat = i := by omega
    constructor
    · intro hm
      have := idx_lab h.nd (i := (i : Int)) (by omega) (by omega)
      rw [e] at this
      exact ⟨_, hm, this⟩
    · rintro ⟨x, hx, ex⟩
      have := lab_idx ((h.row r hr).2.2 x hx)
      rw [ex, e] at this
      rw [this]
      exact hx
  have any_eq : ∀ {l : List (List Int)} {f g : List Int → Bool}, (∀ r ∈ l, f r = g r) → l.any f = l.any g := fun {l f g} => by
    induction l with
    | nil => intro _; rfl
    | cons a l ih => intro hh; rw [List.any_cons, List.any_cons, hh a (by simp), ih fun r hr => hh r (by simp [hr])]
  refine any_eq fun r hr => ?_
  show (decide (names.getD i 0 ∈ r) && decide (names.getD j 0 ∈ r)) = (decide ((i : Int) ∈ srt (r.map (idx names))) && decide ((j : Int) ∈ srt (r.map (idx names))))
  rw [decide_eq_decide.mpr (key r hr i hi), decide_eq_decide.mpr (key r hr j hj)]
/-! the deeds -/
theorem idx_labels : ∀ {line : List Int} {x : Int}, names.Nodup → (∀ y ∈ line, 0 ≤ y ∧ y < names.length) → x ∈ names → idx (labels names line) x = idx line (idx names x)
  | [], x, nd, h, hx => rfl
  | a :: l, x, nd, h, hx => by
    have ih := idx_labels (line := l) nd (fun y hy => h y (by simp [hy])) hx
    have ha := h a (by simp)
    unfold idx at ih ⊢
    unfold labels at ih ⊢
    rw [List.map_cons, List.idxOf_cons, List.idxOf_cons]
    by_cases c : a = ((names.idxOf x : Nat) : Int)
    · have e : names.getD a.toNat 0 = x := by
        have := lab_idx hx
        unfold idx at this
        rw [c]
        exact this
      have e1 : (names.getD a.toNat 0 == x) = true := by rw [e]; simp
      have e2 : (a == ((names.idxOf x : Nat) : Int)) = true := by rw [c]; simp
      rw [e1, e2]
      rfl
    · have e1 : (names.getD a.toNat 0 == x) = false := by
        rw [beq_eq_false_iff_ne]
        intro z
        have := idx_lab nd ha.1 ha.2
        rw [z] at this
        exact c this.symm
      have e2 : (a == ((names.idxOf x : Nat) : Int)) = false := beq_eq_false_iff_ne.mpr c
      rw [e1, e2]
      show (((List.map (fun x => names.getD x.toNat 0) l).idxOf x + 1 : Nat) : Int) = ((l.idxOf ((names.idxOf x : Nat) : Int) + 1 : Nat) : Int)
      omega
theorem labels_mem {line : List Int} {x : Int} (nd : names.Nodup) (h : ∀ y ∈ line, 0 ≤ y ∧ y < names.length) (hx : x ∈ names) : x ∈ labels names line ↔ idx names x ∈ line := by
  unfold labels
  rw [List.mem_map]
  constructor
  · rintro ⟨y, hy, rfl⟩
    rw [idx_lab nd (h y hy).1 (h y hy).2]
    exact hy
  · intro hm
    exact ⟨_, hm, lab_idx hx⟩
theorem labels_sub {line : List Int} (h : ∀ y ∈ line, 0 ≤ y ∧ y < names.length) : ∀ x ∈ labels names line, x ∈ names := fun x hx => by
  obtain ⟨y, hy, rfl⟩ := List.mem_map.mp hx
  exact lab_mem (h y hy).1 (h y hy).2
theorem labels_nodup {line : List Int} (nd : names.Nodup) (h : ∀ y ∈ line, 0 ≤ y ∧ y < names.length) (hl : line.Nodup) : (labels names line).Nodup :=
  nodup_map (fun x hx y hy e => by
    have e1 := idx_lab nd (h x hx).1 (h x hx).2
    have e2 := idx_lab nd (h y hy).1 (h y hy).2
    have e : names.getD x.toNat 0 = names.getD y.toNat 0 := e
    rw [← e1, ← e2, e]) hl
theorem labels_len (line : List Int) : (labels names line).length = line.length := List.length_map _
theorem idx_pw : ∀ {lot : List Int}, lot.Pairwise (· ≤ ·) → ∀ a b, a ∈ lot → b ∈ lot → a ≤ b → idx lot a ≤ idx lot b
  | [], _, a, b, ha, _, _ => by simp at ha
  | x :: l, pw, a, b, ha, hb, hab => by
    have h := List.pairwise_cons.mp pw
    unfold idx
    rw [List.idxOf_cons, List.idxOf_cons]
    by_cases c : x = a
    · have : (x == a) = true := by rw [c]; simp
      rw [this]
      show ((0 : Nat) : Int) ≤ _
      omega
    · have ca : (x == a) = false := beq_eq_false_iff_ne.mpr c
      have ha2 : a ∈ l := by
        rcases List.mem_cons.mp ha with z | z
        · exact absurd z.symm c
        · exact z
      have hxa := h.1 a ha2
      by_cases c2 : x = b
      · omega
      · have cb : (x == b) = false := beq_eq_false_iff_ne.mpr c2
        have hb2 : b ∈ l := by
          rcases List.mem_cons.mp hb with z | z
          · exact absurd z.symm c2
          · exact z
        have ih := idx_pw h.2 a b ha2 hb2 hab
        unfold idx at ih
        rw [ca, cb]
        show ((l.idxOf a + 1 : Nat) : Int) ≤ ((l.idxOf b + 1 : Nat) : Int)
        omega
theorem pw_map_in {f : Int → Int} : ∀ {l : List Int}, l.Pairwise (· ≤ ·) → (∀ a b, a ∈ l → b ∈ l → a ≤ b → f a ≤ f b) → (l.map f).Pairwise (· ≤ ·)
  | [], _, _ => List.Pairwise.nil
  | a :: l, pw, h => by
    have hp := List.pairwise_cons.mp pw
    rw [List.map_cons]
    refine List.pairwise_cons.mpr ⟨fun y hy => ?_, pw_map_in hp.2 fun x y hx hy => h x y (by simp [hx]) (by simp [hy])⟩
    obtain ⟨b, hb, rfl⟩ := List.mem_map.mp hy
    exact h a b (by simp) (by simp [hb]) (hp.1 b hb)
theorem keptRow_eq {lot r : List Int} (nd : names.Nodup) (h : ∀ y ∈ lot, 0 ≤ y ∧ y < names.length) (pw : lot.Pairwise (· ≤ ·)) (hr : ∀ x ∈ r, x ∈ names) :
    keptRow lot (srt (r.map (idx names))) = srt ((r.filter fun x => decide (x ∈ labels names lot)).map (idx (labels names lot))) := by
  refine srt_eq ?_ ?_
  · unfold keptRow
    have p1 := ((srt_perm (r.map (idx names))).filter fun x => decide (x ∈ lot)).map (idx lot)
    refine p1.trans (List.Perm.of_eq ?_)
    rw [List.filter_map, List.map_map]
    have e1 : r.filter ((fun x => decide (x ∈ lot)) ∘ idx names) = r.filter fun x => decide (x ∈ labels names lot) := filter_eq fun x hx => by
      show decide (idx names x ∈ lot) = decide (x ∈ labels names lot)
      exact decide_eq_decide.mpr (labels_mem nd h (hr x hx)).symm
    rw [e1]
    refine List.map_congr_left fun x hx => ?_
    show idx lot (idx names x) = idx (labels names lot) x
    exact (idx_labels nd h (hr x (List.mem_filter.mp hx).1)).symm
  · unfold keptRow
    exact pw_map_in (List.Pairwise.filter _ (srt_pw _)) fun a b ha hb hab => idx_pw pw a b (of_decide_eq_true (List.mem_filter.mp ha).2) (of_decide_eq_true (List.mem_filter.mp hb).2) hab
theorem kept_eq {lot : List Int} (h : LabOk names rows B) (hl : ∀ y ∈ lot, 0 ≤ y ∧ y < names.length) (pw : lot.Pairwise (· ≤ ·)) :
    keptRows lot (renum names rows) = renum (labels names lot) ((rows.map fun r => r.filter fun x => decide (x ∈ labels names lot)).filter fun r => decide (1 < r.length)) := by
  unfold keptRows
  rw [renum_eq, renum_eq, List.map_map, List.filter_map, List.filter_map, List.map_map]
  have e1 : ∀ r ∈ rows, (keptRow lot ∘ fun r => srt (r.map (idx names))) r = srt ((r.filter fun x => decide (x ∈ labels names lot)).map (idx (labels names lot))) := fun r hr => keptRow_eq h.nd hl pw (h.row r hr).2.2
  have e2 : rows.filter ((fun r : List Int => decide (2 ≤ r.length)) ∘ (keptRow lot ∘ fun r => srt (r.map (idx names)))) = rows.filter ((fun r : List Int => decide (1 < r.length)) ∘ fun r => r.filter fun x => decide (x ∈ labels names lot)) := filter_eq fun r hr => by
    show decide (2 ≤ ((keptRow lot ∘ fun r => srt (r.map (idx names))) r).length) = decide (1 < (r.filter fun x => decide (x ∈ labels names lot)).length)
    rw [e1 r hr, srt_length, List.length_map]
    exact decide_eq_decide.mpr (by omega)
  rw [e2]
  exact List.map_congr_left fun r hr => e1 r (List.mem_filter.mp hr).1
theorem kept_lab {lot : List Int} (h : LabOk names rows B) (hl : ∀ y ∈ lot, 0 ≤ y ∧ y < names.length) (nd : lot.Nodup) (h1 : 1 ≤ lot.length) :
    LabOk (labels names lot) ((rows.map fun r => r.filter fun x => decide (x ∈ labels names lot)).filter fun r => decide (1 < r.length)) B := by
  have le : lot.length ≤ names.length := by
    have p : (lot.filter fun x => decide (x ∈ rgI names.length)).Perm ((rgI names.length).filter fun x => decide (x ∈ lot)) := (List.perm_ext_iff_of_nodup (List.Pairwise.filter _ nd) (List.Pairwise.filter _ (rgI_nodup _))).mpr fun x => by
      rw [List.mem_filter, List.mem_filter, decide_eq_true_iff, decide_eq_true_iff]
      exact ⟨fun z => ⟨z.2, z.1⟩, fun z => ⟨z.2, z.1⟩⟩
    have e : lot.filter (fun x => decide (x ∈ rgI names.length)) = lot := filter_all fun x hx => decide_eq_true (rgI_mem.mpr (hl x hx))
    rw [e] at p
    have := p.length_eq
    have h2 := List.length_filter_le (fun x => decide (x ∈ lot)) (rgI names.length)
    rw [rgI_length] at h2
    omega
  refine ⟨labels_nodup h.nd hl nd, by rw [labels_len]; exact h1, by rw [labels_len]; have := h.l1; omega, fun r hr => ?_, fun x hx => h.bnd x (labels_sub hl x hx)⟩
  obtain ⟨h2, h3⟩ := List.mem_filter.mp hr
  obtain ⟨s, hs, rfl⟩ := List.mem_map.mp h2
  exact ⟨List.Pairwise.filter _ (h.row s hs).1, of_decide_eq_true h3, fun x hx => of_decide_eq_true (List.mem_filter.mp hx).2⟩
theorem more_eq {ts : List Int} (h : LabOk names rows B) (hl : ∀ y ∈ ts, 0 ≤ y ∧ y < names.length) : renum names rows ++ [srt ts] = renum names (rows ++ [labels names ts]) := by
  rw [renum_eq, renum_eq, List.map_append, List.map_cons, List.map_nil]
  congr 3
  unfold labels
  rw [List.map_map]
  have : ts.map (idx names ∘ fun x => names.getD x.toNat 0) = ts.map id := List.map_congr_left fun x hx => idx_lab h.nd (hl x hx).1 (hl x hx).2
  rw [this, List.map_id]
theorem more_lab {ts : List Int} (h : LabOk names rows B) (hl : FirstRow names.length ts) : LabOk names (rows ++ [labels names ts]) B :=
  ⟨h.nd, h.l0, h.l1, fun r hr => by
    rcases List.mem_append.mp hr with z | z
    · exact h.row r z
    · rw [List.mem_singleton.mp z]
      exact ⟨labels_nodup h.nd hl.2.2.2 hl.1, by rw [labels_len]; exact hl.2.1, labels_sub hl.2.2.2⟩, h.bnd⟩
theorem less_eq (names : List Int) (rows : List (List Int)) (i : Nat) : (renum names rows).take i ++ (renum names rows).drop (i + 1) = renum names (rows.take i ++ rows.drop (i + 1)) := by
  rw [renum_eq, renum_eq, List.map_append, List.map_take, List.map_drop]
theorem less_lab {i : Nat} (h : LabOk names rows B) : LabOk names (rows.take i ++ rows.drop (i + 1)) B :=
  ⟨h.nd, h.l0, h.l1, fun r hr => by
    rcases List.mem_append.mp hr with z | z
    · exact h.row r (List.mem_of_mem_take z)
    · exact h.row r (List.mem_of_mem_drop z), h.bnd⟩
theorem perm_mem {line : List Int} {m : Nat} (p : line.Perm (rgI m)) : (∀ y ∈ line, 0 ≤ y ∧ y < (m : Int)) ∧ line.Nodup ∧ line.length = m :=
  ⟨fun y hy => rgI_mem.mp (p.mem_iff.mp hy), (List.Perm.nodup_iff p).mpr (rgI_nodup m), by rw [p.length_eq, rgI_length]⟩
theorem line_eq {line : List Int} (h : LabOk names rows B) (p : line.Perm (rgI names.length)) : renum line (renum names rows) = renum (labels names line) rows := by
  rw [renum_eq, renum_eq, renum_eq, List.map_map]
  refine List.map_congr_left fun r hr => ?_
  show srt ((srt (r.map (idx names))).map (idx line)) = srt (r.map (idx (labels names line)))
  rw [srt_congr ((srt_perm (r.map (idx names))).map (idx line)), List.map_map]
  congr 1
  exact List.map_congr_left fun x hx => (idx_labels h.nd (perm_mem p).1 ((h.row r hr).2.2 x hx)).symm
theorem line_lab {line : List Int} (h : LabOk names rows B) (p : line.Perm (rgI names.length)) : LabOk (labels names line) rows B := by
  obtain ⟨h1, h2, h3⟩ := perm_mem p
  refine ⟨labels_nodup h.nd h1 h2, by rw [labels_len, h3]; exact h.l0, by rw [labels_len, h3]; exact h.l1, fun r hr => ?_, fun x hx => h.bnd x (labels_sub h1 x hx)⟩
  have hr := h.row r hr
  refine ⟨hr.1, hr.2.1, fun x hx => (labels_mem h.nd h1 (hr.2.2 x hx)).mpr ?_⟩
  exact p.mem_iff.mpr (rgI_mem.mpr (idx_in (hr.2.2 x hx)))
theorem revRange_perm (m : Nat) : (revRange m).Perm (rgI m) := by
  have e : revRange m = (rgI m).reverse := by
    unfold revRange rgI
    refine List.ext_getElem (by simp) fun i h1 h2 => ?_
    simp
  rw [e]
  exact List.reverse_perm _
theorem labels_rev : labels names (revRange names.length) = names.reverse := by
  unfold labels revRange
  rw [List.map_map]
  refine List.ext_getElem (by simp) fun i h1 h2 => ?_
  have hi : i < names.length := by simpa using h2
  simp only [List.getElem_map, List.getElem_range, Function.comp, List.getElem_reverse]
  have e : (((names.length - 1 - i : Nat) : Int)).toNat = names.length - 1 - i := by omega
  rw [e, List.getD_eq_getElem?_getD, List.getElem?_eq_getElem (by omega)]
  rfl
theorem mirror_eq (h : LabOk names rows B) : renum (revRange names.length) (renum names rows) = renum names.reverse rows := by
  rw [line_eq h (revRange_perm _), labels_rev]
theorem mirror_lab (h : LabOk names rows B) : LabOk names.reverse rows B := by
  have := line_lab h (revRange_perm _)
  rw [labels_rev] at this
  exact this
end
end LK
namespace LK
open PySem PySem.Spec PyProof.Rows L2
theorem srt_id {l : List Int} (h : l.Pairwise (· ≤ ·)) : srt l = l := (srt_eq (List.Perm.refl _) h).symm
/-- a row of a second book -/
def OtherRow (m : Nat) (r : List Int) : Prop := r.Nodup ∧ r.Pairwise (· ≤ ·) ∧ 2 ≤ r.length ∧ ∀ x ∈ r, 0 ≤ x ∧ x < (m : Int)
theorem five_ok : ∀ b ∈ fiveBooks, 1 ≤ b.1 ∧ b.1 ≤ 4 ∧ b.2.length ≤ 2 ∧ (∀ r ∈ b.2, OtherRow b.1.toNat r) ∧ isBook (bookD b.1 b.2) = true := by
  intro b hb
  simp only [fiveBooks, List.mem_cons, List.not_mem_nil, or_false] at hb
  rcases hb with rfl | rfl | rfl | rfl | rfl
  · exact ⟨by decide, by decide, by decide, fun r hr => by simp at hr, by decide⟩
  · refine ⟨by decide, by decide, by decide, fun r hr => ?_, by decide⟩
    simp at hr
    rcases hr with rfl | rfl <;> exact ⟨by decide, by decide, by decide, by decide⟩
  · refine ⟨by decide, by decide, by decide, fun r hr => ?_, by decide⟩
    simp at hr
    subst hr
    exact ⟨by decide, by decide, by decide, by decide⟩
  · refine ⟨by decide, by decide, by decide, fun r hr => ?_, by decide⟩
    simp at hr
    rcases hr with rfl | rfl <;> exact ⟨by decide, by decide, by decide, by decide⟩
  · exact ⟨by decide, by decide, by decide, fun r hr => by simp at hr, by decide⟩
section
variable {names : List Int} {rows : List (List Int)} {B fresh : Int}
theorem fresh_idx (k : Nat) (fresh : Int) {y : Int} (h0 : 0 ≤ y) (h1 : y < (k : Int)) : idx ((rgI k).map fun x => fresh + x) (fresh + y) = y := by
  have nd : ((rgI k).map fun x => fresh + x).Nodup := nodup_map (fun x _ y _ (e : fresh + x = fresh + y) => by omega) (rgI_nodup k)
  have hl : ((rgI k).map fun x => fresh + x).length = k := by rw [List.length_map, rgI_length]
  have := idx_lab nd (i := y) h0 (by rw [hl]; exact h1)
  have e : ((rgI k).map fun x => fresh + x).getD y.toNat 0 = fresh + y := by
    have hy : y.toNat < k := by omega
    rw [List.getD_eq_getElem?_getD, List.getElem?_map]
    unfold rgI
    rw [List.getElem?_map, List.getElem?_range hy]
    show fresh + ((y.toNat : Nat) : Int) = fresh + y
    omega
  rw [e] at this
  exact this
theorem beside_eq {k : Nat} {orows : List (List Int)} (h : LabOk names rows B) (hB : B ≤ fresh) (ho : ∀ r ∈ orows, OtherRow k r) :
    renum names rows ++ orows.map (fun r => r.map fun x => ((names.length : Nat) : Int) + x) = renum (names ++ (rgI k).map fun x => fresh + x) (rows ++ orows.map fun r => r.map fun x => fresh + x) := by
  rw [renum_eq, renum_eq, List.map_append, List.map_map]
  congr 1
  · refine List.map_congr_left fun r hr => ?_
    congr 1
    refine List.map_congr_left fun x hx => ?_
    unfold idx
    rw [List.idxOf_append, if_pos ((h.row r hr).2.2 x hx)]
  · refine List.map_congr_left fun r hr => ?_
    obtain ⟨h1, h2, h3, h4⟩ := ho r hr
    show r.map (fun x => ((names.length : Nat) : Int) + x) = srt ((r.map fun x => fresh + x).map (idx (names ++ (rgI k).map fun x => fresh + x)))
    have e : (r.map fun x => fresh + x).map (idx (names ++ (rgI k).map fun x => fresh + x)) = r.map fun x => ((names.length : Nat) : Int) + x := by
      rw [List.map_map]
      refine List.map_congr_left fun x hx => ?_
      have hx := h4 x hx
      show idx (names ++ (rgI k).map fun x => fresh + x) (fresh + x) = _
      have hn : ¬ (fresh + x) ∈ names := fun z => by have := h.bnd _ z; omega
      have e2 := fresh_idx k fresh hx.1 hx.2
      unfold idx at e2 ⊢
      rw [List.idxOf_append, if_neg hn]
      omega
    rw [e]
    refine (srt_id ?_).symm
    exact pw_map_in h2 fun a b _ _ hab => by omega
theorem beside_lab {k : Nat} {orows : List (List Int)} (h : LabOk names rows B) (hB : B ≤ fresh) (h0 : 0 ≤ fresh) (hk : names.length + k ≤ 40) (ho : ∀ r ∈ orows, OtherRow k r) :
    LabOk (names ++ (rgI k).map fun x => fresh + x) (rows ++ orows.map fun r => r.map fun x => fresh + x) (fresh + (k : Int)) := by
  refine ⟨List.nodup_append.mpr ⟨h.nd, nodup_map (fun x _ y _ (e : fresh + x = fresh + y) => by omega) (rgI_nodup k), fun a ha b hb e => ?_⟩, ?_, ?_, fun r hr => ?_, fun x hx => ?_⟩
  · subst e
    obtain ⟨y, hy, rfl⟩ := List.mem_map.mp hb
    have := h.bnd _ ha
    have := rgI_mem.mp hy
    omega
  · rw [List.length_append]
    have := h.l0
    omega
  · rw [List.length_append, List.length_map, rgI_length]
    exact hk
  · rcases List.mem_append.mp hr with z | z
    · have := h.row r z
      exact ⟨this.1, this.2.1, fun x hx => List.mem_append.mpr (.inl (this.2.2 x hx))⟩
    · obtain ⟨s, hs, rfl⟩ := List.mem_map.mp z
      obtain ⟨h1, h2, h3, h4⟩ := ho s hs
      refine ⟨nodup_map (fun x _ y _ (e : fresh + x = fresh + y) => by omega) h1, by rw [List.length_map]; exact h3, fun x hx => ?_⟩
      obtain ⟨y, hy, rfl⟩ := List.mem_map.mp hx
      have := h4 y hy
      exact List.mem_append.mpr (.inr (List.mem_map.mpr ⟨y, rgI_mem.mpr this, rfl⟩))
  · rcases List.mem_append.mp hx with z | z
    · have := h.bnd x z
      omega
    · obtain ⟨y, hy, rfl⟩ := List.mem_map.mp z
      have := rgI_mem.mp hy
      omega
theorem LabOk.mono {B' : Int} (h : LabOk names rows B) (hB : B ≤ B') : LabOk names rows B' := ⟨h.nd, h.l0, h.l1, h.row, fun x hx => by have := h.bnd x hx; omega⟩
/-- the first names: the range -/
theorem idx_range {m : Nat} {x : Int} (h0 : 0 ≤ x) (h1 : x < (m : Int)) : idx (rgI m) x = x := by
  have := fresh_idx m 0 h0 h1
  have e : (rgI m).map (fun x => (0 : Int) + x) = rgI m := by
    have : (fun x : Int => (0 : Int) + x) = id := by funext x; simp
    rw [this, List.map_id]
  rw [e, Int.zero_add] at this
  exact this
theorem first_lab {n : Int} (h0 : 1 ≤ n) (h1 : n ≤ 40) (hr : ∀ r ∈ rows, FirstRow n r) : LabOk (rgI n.toNat) rows 40 :=
  ⟨rgI_nodup _, by rw [rgI_length]; omega, by rw [rgI_length]; omega, fun r hh => ⟨(hr r hh).1, (hr r hh).2.1, fun x hx => rgI_mem.mpr (by have := (hr r hh).2.2.2 x hx; omega)⟩, fun x hx => by have := rgI_mem.mp hx; omega⟩
theorem first_eq {n : Int} (hr : ∀ r ∈ rows, FirstRow n r) : rows.map srt = renum (rgI n.toNat) rows := by
  rw [renum_eq]
  refine List.map_congr_left fun r hh => ?_
  congr 1
  have : r.map (idx (rgI n.toNat)) = r.map id := List.map_congr_left fun x hx => idx_range (by have := (hr r hh).2.2.2 x hx; omega) (by have := (hr r hh).2.2.2 x hx; omega)
  rw [this, List.map_id]
end
end LK
/-! a list of lists that are appended to -/
namespace LK
open PySem PySem.Spec PyProof.Rows L2
structure NearSt (H0 : Hp) (D : Addr) (as : List Addr) (f : Nat → List Int) (H : Hp) : Prop where
  nd : as.Nodup
  d0 : H0 D = none
  fr : ∀ a ∈ as, H0 a = none ∧ a ≠ D
  atD : H D = some (.lst (as.map V.ref))
  atA : ∀ (i : Nat) (a : Addr), as[i]? = some a → H a = some (.lst ((f i).map V.int))
  same : Same H0 H
theorem NearSt.grow {H0 H H' : Hp} {D : Addr} {as : List Addr} {f : Nat → List Int} (h : NearSt H0 D as f H) (s : Same H H') : NearSt H0 D as f H' :=
  ⟨h.nd, h.d0, h.fr, s _ _ h.atD, fun i a e => s _ _ (h.atA i a e), h.same.trans s⟩
theorem NearSt.app {H0 H : Hp} {D a : Addr} {as : List Addr} {f : Nat → List Int} {i : Nat} (h : NearSt H0 D as f H) (hi : as[i]? = some a) (x : Int) :
    NearSt H0 D as (fun k => if k = i then f k ++ [x] else f k) (upd H a (.lst ((f i).map V.int ++ [V.int x]))) := by
  have ha := List.mem_of_getElem? hi
  have fa := h.fr a ha
  refine ⟨h.nd, h.d0, h.fr, by rw [upd_ne (Ne.symm fa.2)]; exact h.atD, fun k b e => ?_, fun b u e => by rw [upd_ne (ne_of_none e fa.1)]; exact h.same _ _ e⟩
  by_cases c : k = i
  · subst c
    rw [hi] at e
    cases e
    rw [upd_same, if_pos rfl, List.map_append]
    rfl
  · have hne : b ≠ a := fun z => by
      subst z
      have l1 := (List.getElem?_eq_some_iff.mp e).1
      have l2 := (List.getElem?_eq_some_iff.mp hi).1
      have e1 := (List.getElem?_eq_some_iff.mp e).2
      have e2 := (List.getElem?_eq_some_iff.mp hi).2
      have p := List.pairwise_iff_getElem.mp h.nd
      rcases Nat.lt_or_gt_of_ne c with z | z
      · exact p k i l1 l2 z (by rw [e1, e2])
      · exact p i k l2 l1 z (by rw [e1, e2])
    rw [upd_ne hne, if_neg c]
    exact h.atA k b e
theorem acc_take {T : List (List Int)} {j : Nat} {r : List Int} (h : T[j]? = some r) (i : Int) : accL i (T.take (j + 1)) = accL i (T.take j) ++ accR i r := by
  unfold accL
  have hl := (List.getElem?_eq_some_iff.mp h).1
  have e : T.take (j + 1) = T.take j ++ [r] := by
    rw [List.take_succ, h]
    rfl
  rw [e, List.flatMap_append]
  simp
theorem acc_step {f : Nat → List Int} {a b : Nat} (hab : a < b) : (fun k : Nat => if k = b then (if k = a then f k ++ [(b : Int)] else f k) ++ [(a : Int)] else (if k = a then f k ++ [(b : Int)] else f k)) = fun k : Nat => f k ++ accR (k : Int) [(a : Int), (b : Int)] := by
  funext k
  unfold accR
  show _ = f k ++ ((if (a : Int) = (k : Int) then [(b : Int)] else []) ++ (if (b : Int) = (k : Int) then [(a : Int)] else []))
  by_cases h1 : k = a
  · subst h1
    rw [if_neg (by omega), if_pos rfl, if_pos rfl, if_neg (by omega)]
    rfl
  · by_cases h2 : k = b
    · subst h2
      rw [if_pos rfl, if_neg h1, if_neg (by omega), if_pos rfl]
      rfl
    · rw [if_neg h2, if_neg h1, if_neg (by omega), if_neg (by omega)]
      simp
theorem accR_len (i : Int) (r : List Int) : (accR i r).length ≤ 2 := by
  unfold accR
  rw [List.length_append]
  split <;> split <;> simp
theorem accL_len (i : Int) : ∀ T : List (List Int), (accL i T).length ≤ 2 * T.length
  | [] => Nat.le_refl _
  | r :: T => by
    have h1 := accR_len i r
    have h2 := accL_len i T
    unfold accL at h2 ⊢
    rw [List.flatMap_cons, List.length_append, List.length_cons]
    omega
end LK
namespace LK
open PySem PySem.Spec PyProof.Rows L2
/-! calls by keywords alone, named from the last parameter to the first -/
def kwRev {α : Type} (n : Nat) : List α → List α → List α
  | [], ws => if ws.length = n then ws.reverse else []
  | _ :: _, _ => []
theorem vals_rev {vs : List V} {us : List Value} (r : Vals vs us) : Vals vs.reverse us.reverse := r.reverse
theorem kw_rel {n : Nat} {vs : List V} {us : List Value} {zs : List V} {ws : List Value} (r : Vals vs us) (rz : Vals zs ws) : Vals (kwRev n vs zs) (kwRev n us ws) := by
  cases r with
  | nil =>
    show Vals (if zs.length = n then zs.reverse else []) (if ws.length = n then ws.reverse else [])
    rw [rz.length]
    split
    · exact rz.reverse
    · exact .nil
  | cons a b => exact .nil
theorem kw_inv {n : Nat} {us ws : List Value} (hn : 0 < n) (h : (kwRev n us ws).length = n) : us = [] ∧ ws.length = n := by
  cases us with
  | nil =>
    refine ⟨rfl, ?_⟩
    replace h : (if ws.length = n then ws.reverse else []).length = n := h
    by_cases c : ws.length = n
    · exact c
    · rw [if_neg c] at h
      exact absurd h (by show ¬ (0 = n); omega)
  | cons a l => exact absurd h (by show ¬ (0 = n); omega)
section
variable {K : PySem.W.Frag} {mg : Str → Option Value} {ad : Nat → Addr} {fd : Nat → FuncData}
theorem kb_kept_to_lot_book (T : Txt K mg ad fd) : KBinds K (fd 24) ["book", "lot"] ["lot", "book"] (kwRev 2) (kwRev 2) := by
  obtain ⟨oc, od, kV, doc, pm, an, cdv, ct, osl, e, lk, hcd⟩ := T.F_kept_to.ex
  refine ⟨fun s us ws _ hl => ?_, fun r rz => kw_rel r rz⟩
  obtain ⟨rfl, hw⟩ := kw_inv (n := 2) (by decide) hl
  rw [e]
  match ws, hw with
  | [a, b], _ => exact .of_eq rfl
theorem kb_with_list_things_book (T : Txt K mg ad fd) : KBinds K (fd 25) ["book", "things"] ["things", "book"] (kwRev 2) (kwRev 2) := by
  obtain ⟨oc, od, kV, doc, pm, an, cdv, ct, osl, e, lk, hcd⟩ := T.F_with_list.ex
  refine ⟨fun s us ws _ hl => ?_, fun r rz => kw_rel r rz⟩
  obtain ⟨rfl, hw⟩ := kw_inv (n := 2) (by decide) hl
  rw [e]
  match ws, hw with
  | [a, b], _ => exact .of_eq rfl
theorem kb_without_list_listed_book (T : Txt K mg ad fd) : KBinds K (fd 26) ["book", "listed"] ["listed", "book"] (kwRev 2) (kwRev 2) := by
  obtain ⟨oc, od, kV, doc, pm, an, cdv, ct, osl, e, lk, hcd⟩ := T.F_without_list.ex
  refine ⟨fun s us ws _ hl => ?_, fun r rz => kw_rel r rz⟩
  obtain ⟨rfl, hw⟩ := kw_inv (n := 2) (by decide) hl
  rw [e]
  match ws, hw with
  | [a, b], _ => exact .of_eq rfl
theorem kb_beside_other_book (T : Txt K mg ad fd) : KBinds K (fd 27) ["book", "other"] ["other", "book"] (kwRev 2) (kwRev 2) := by
  obtain ⟨oc, od, kV, doc, pm, an, cdv, ct, osl, e, lk, hcd⟩ := T.F_beside.ex
  refine ⟨fun s us ws _ hl => ?_, fun r rz => kw_rel r rz⟩
  obtain ⟨rfl, hw⟩ := kw_inv (n := 2) (by decide) hl
  rw [e]
  match ws, hw with
  | [a, b], _ => exact .of_eq rfl
theorem kb_rebased_line_book (T : Txt K mg ad fd) : KBinds K (fd 29) ["book", "line"] ["line", "book"] (kwRev 2) (kwRev 2) := by
  obtain ⟨oc, od, kV, doc, pm, an, cdv, ct, osl, e, lk, hcd⟩ := T.F_rebased.ex
  refine ⟨fun s us ws _ hl => ?_, fun r rz => kw_rel r rz⟩
  obtain ⟨rfl, hw⟩ := kw_inv (n := 2) (by decide) hl
  rw [e]
  match ws, hw with
  | [a, b], _ => exact .of_eq rfl
theorem kb_mirrored_book (T : Txt K mg ad fd) : KBinds K (fd 30) ["book"] ["book"] (kwRev 1) (kwRev 1) := by
  obtain ⟨oc, od, kV, doc, pm, an, cdv, ct, osl, e, lk, hcd⟩ := T.F_mirrored.ex
  refine ⟨fun s us ws _ hl => ?_, fun r rz => kw_rel r rz⟩
  obtain ⟨rfl, hw⟩ := kw_inv (n := 1) (by decide) hl
  rw [e]
  match ws, hw with
  | [a], _ => exact .of_eq rfl
theorem kb_near_of_here_book (T : Txt K mg ad fd) : KBinds K (fd 44) ["book", "here"] ["here", "book"] (kwRev 2) (kwRev 2) := by
  obtain ⟨oc, od, kV, doc, pm, an, cdv, ct, osl, e, lk, hcd⟩ := T.F_near_of.ex
  refine ⟨fun s us ws _ hl => ?_, fun r rz => kw_rel r rz⟩
  obtain ⟨rfl, hw⟩ := kw_inv (n := 2) (by decide) hl
  rw [e]
  match ws, hw with
  | [a, b], _ => exact .of_eq rfl
theorem kb_between_of_tie_book (T : Txt K mg ad fd) : KBinds K (fd 46) ["book", "tie"] ["tie", "book"] (kwRev 2) (kwRev 2) := by
  obtain ⟨oc, od, kV, doc, pm, an, cdv, ct, osl, e, lk, hcd⟩ := T.F_between_of.ex
  refine ⟨fun s us ws _ hl => ?_, fun r rz => kw_rel r rz⟩
  obtain ⟨rfl, hw⟩ := kw_inv (n := 2) (by decide) hl
  rw [e]
  match ws, hw with
  | [a, b], _ => exact .of_eq rfl
theorem kb_is_tied_there_here_book (T : Txt K mg ad fd) : KBinds K (fd 43) ["book", "here", "there"] ["there", "here", "book"] (kwRev 3) (kwRev 3) := by
  obtain ⟨oc, od, kV, doc, pm, an, cdv, ct, osl, e, lk, hcd⟩ := T.F_is_tied.ex
  refine ⟨fun s us ws _ hl => ?_, fun r rz => kw_rel r rz⟩
  obtain ⟨rfl, hw⟩ := kw_inv (n := 3) (by decide) hl
  rw [e]
  match ws, hw with
  | [a, b, c], _ => exact .of_eq rfl
theorem kb_is_tie_thing_book (T : Txt K mg ad fd) : KBinds K (fd 14) ["book", "thing"] ["thing", "book"] (kwRev 2) (kwRev 2) := by
  obtain ⟨oc, od, kV, doc, pm, an, cdv, ct, osl, e, lk, hcd⟩ := T.F_is_tie.ex
  refine ⟨fun s us ws _ hl => ?_, fun r rz => kw_rel r rz⟩
  obtain ⟨rfl, hw⟩ := kw_inv (n := 2) (by decide) hl
  rw [e]
  match ws, hw with
  | [a, b], _ => exact .of_eq rfl
theorem kb_is_row_thing_book (T : Txt K mg ad fd) : KBinds K (fd 15) ["book", "thing"] ["thing", "book"] (kwRev 2) (kwRev 2) := by
  obtain ⟨oc, od, kV, doc, pm, an, cdv, ct, osl, e, lk, hcd⟩ := T.F_is_row.ex
  refine ⟨fun s us ws _ hl => ?_, fun r rz => kw_rel r rz⟩
  obtain ⟨rfl, hw⟩ := kw_inv (n := 2) (by decide) hl
  rw [e]
  match ws, hw with
  | [a, b], _ => exact .of_eq rfl
theorem kb_ties_of_book (T : Txt K mg ad fd) : KBinds K (fd 42) ["book"] ["book"] (kwRev 1) (kwRev 1) := by
  obtain ⟨oc, od, kV, doc, pm, an, cdv, ct, osl, e, lk, hcd⟩ := T.F_ties_of.ex
  refine ⟨fun s us ws _ hl => ?_, fun r rz => kw_rel r rz⟩
  obtain ⟨rfl, hw⟩ := kw_inv (n := 1) (by decide) hl
  rw [e]
  match ws, hw with
  | [a], _ => exact .of_eq rfl
end
end LK
namespace LK
open PySem PySem.Spec PyProof.Rows L2
section
variable {P : Program} {w : World} {K : PySem.W.Frag} {mg : Str → Option Value} {base : Heap} {ad : Nat → Addr} {fd : Nat → FuncData}
theorem ok_with_list (T : Txt K mg ad fd) : FnOk P w K mg base (L2.CX P w) 6 (ad 25) (fd 25) ["book", "things"] (spX K (ad 21) (fun _ rows _ => rows.length ≤ 500) withList) := by
  refine T.F_with_list.okX sc_with_list (fun vs H Q E h => ?_) (fun cdv A outer s H vs Q E hr h => ?_)
  · obtain ⟨v, u, d, n, rows, rfl, _⟩ := h
    rfl
  · obtain ⟨v, u, d, n, rows, rfl, h, hu, hsz, k⟩ := h
    obtain ⟨b, L, xs, rfl, hb, hL, hz, hr2⟩ := rp_book h
    refine ⟨_, (pss_cons (ps_asg (pv 0) (pg_tup rfl (pgs_cons (pg_name (i := 2) (x := "size") sc_with_list.nd rfl (Or.inl rfl)) (pgs_cons (pg_name (i := 3) (x := "lists") sc_with_list.nd rfl (Or.inl rfl)) pgs_nil))))
  (pss_cons (ps_expr (pe_call (ok_need T) (hr.mono (by decide)) rfl T.m_need T.F_need.kp (b_need T) .nil (passes_call (takes_of rfl rfl rfl rfl) fun _ _ _ _ h => h) (pa_cons (pe_and (pe_call (ok_are_unlike_below T) (hr.mono (by decide)) rfl T.m_are_unlike_below T.F_are_unlike_below.kp (b_are_unlike_below T) .nil pass0 (pa_cons (pv 2) (pa_cons (pv 1) pa_nil))) (pe_one (pe_cmpR op_ge (pe_callB (lenS K) (by rfl) T.g_len (by decide +kernel) (pa_cons (pv 1) pa_nil)) pe_int (nomark _)))) (pa_cons pe_str pa_nil))))
  (pss_one (ps_ret (pe_tup (pa_cons (pv 2) (pa_cons (pe_op (catA K) (pv 3) (pe_tup (pa_cons (pe_callTy (tupOf K) (by rfl) T.g_tuple (by decide +kernel) (pa_cons (pe_callB (srtT K) (by rfl) T.g_sorted (by decide +kernel) (pa_cons (pv 1) pa_nil)) pa_nil)) pa_nil))) pa_nil))))))), ?_⟩
    refine ⟨_, rfl, b, _, rfl, hb, rfl, _, _, rfl, _, _, rfl, rfl, _, rfl, _, rfl, n, u, d, rfl, hu, fun H1 s1 => ⟨_, rfl, ?_⟩⟩
    cases e : areUnlike n d with
    | false =>
      have ek : withList n rows d = .error ("things", -1) := by simp [withList, e]
      rw [ek] at k
      exact iteF ⟨false, _, rfl, (fun z => by cases z), fun _ => k.same s1⟩
    | true =>
      have ed := areBelow_tup (areUnlike_below e)
      rw [ed] at hu
      obtain ⟨a, rfl, ta⟩ := hu.tupI
      generalize hlot : dInts d = ns at *
      have ta1 := ta.same s1
      refine iteT ⟨_, rfl, _, _, rfl, .inr ta1.1, _, _, rfl, rfl, _, _, rfl, (fun hc => ?_), fun hc => ?_⟩
      rotate_left
      · have ek : withList n rows d = .error ("things", -1) := by
          unfold withList
          rw [e, hlot, if_neg]
          simp only [List.length_map, decide_eq_false_iff_not] at hc
          simp
          omega
        rw [ek] at k
        exact k.same s1
      have ek : withList n rows d = .ok (bookD n (rows ++ [srt ns])) := by
        unfold withList
        rw [e, hlot, if_pos]
        simp only [List.length_map, decide_eq_true_eq] at hc
        simp
        omega
      rw [ek] at k
      refine ⟨_, rfl, _, rfl, _, rfl, a, ns, rfl, ta1.1, fun ns' p pm pw hp => ?_⟩
      have en := srt_eq pm pw
      subst en
      dsimp only [tNil]
      refine tupL_use (SqL.of upd_same) fun q H3 s3 hq => ⟨(by show 1 ≤ sizeLine; decide), fun r hr3 => ?_⟩
      have s13 := (same_upd (o := .lst ((srt ns).map V.int)) hp).trans (s3.trans (same_upd (o := .tup [.ref q]) hr3))
      have lx : xs.length ≤ 500 := by rw [hr2.length, List.length_map]; exact hsz
      refine catA_use (seqT (s1.trans s13) hL) (SqT.of upd_same) (by show xs.length + 1 ≤ 2000; omega) fun c H4 s4 hc4 => ⟨(by show 2 ≤ sizeLine; decide), fun z hz4 => ?_⟩
      refine k _ _ ((s1.trans s13).trans (s4.trans (same_upd hz4))) ?_
      have tq : TupI K (upd H3 r (.tup [.ref q])) q (srt ns) := ⟨seqT (same_upd hr3) hq, by rw [srt_length]; exact ta.2⟩
      refine rp_bookNew hc4 (by rw [List.length_append]; show xs.length + 1 ≤ 1000; omega) ?_ hz4
      rw [rows_app]
      exact ((hr2.same (s1.trans s13)).app (.one tq.rp)).same s4
theorem ok_without_list (T : Txt K mg ad fd) : FnOk P w K mg base (L2.CX P w) 4 (ad 26) (fd 26) ["book", "listed"] (spX K (ad 21) (fun _ _ _ => True) withoutList) := by
  refine T.F_without_list.okX sc_without_list (fun vs H Q E h => ?_) (fun cdv A outer s H vs Q E hr h => ?_)
  · obtain ⟨v, u, d, n, rows, rfl, _⟩ := h
    rfl
  · obtain ⟨v, u, d, n, rows, rfl, h, hu, _, k⟩ := h
    obtain ⟨b, L, xs, rfl, hb, hL, hz, hr2⟩ := rp_book h
    have lx : xs.length = rows.length := by rw [hr2.length, List.length_map]
    refine ⟨_, (pss_cons (ps_asg (pv 0) (pg_tup rfl (pgs_cons (pg_name (i := 2) (x := "size") sc_without_list.nd rfl (Or.inl rfl)) (pgs_cons (pg_name (i := 3) (x := "lists") sc_without_list.nd rfl (Or.inl rfl)) pgs_nil))))
  (pss_cons (ps_expr (pe_call (ok_need T) (hr.mono (by decide)) rfl T.m_need T.F_need.kp (b_need T) .nil (passes_call (takes_of rfl rfl rfl rfl) fun _ _ _ _ h => h) (pa_cons (pe_call (ok_is_below T) (hr.mono (by decide)) rfl T.m_is_below T.F_is_below.kp (b_is_below T) .nil pass0 (pa_cons (pe_callB (lenS K) (by rfl) T.g_len (by decide +kernel) (pa_cons (pv 3) pa_nil)) (pa_cons (pv 1) pa_nil))) (pa_cons pe_str pa_nil))))
  (pss_one (ps_ret (pe_tup (pa_cons (pv 2) (pa_cons (pe_op (catA K) (pe_slice (slA K) (pv 3) po_none (po_some (pv 1))) (pe_slice (slA K) (pv 3) (po_some (pe_op op_add (pv 1) pe_int)) po_none)) pa_nil))))))), ?_⟩
    refine ⟨_, rfl, b, _, rfl, hb, rfl, _, _, rfl, _, _, rfl, rfl, _, rfl, _, _, rfl, .inr hL, _, rfl, _, u, d, rfl, hu, _, _, rfl, (fun hc => ?_), fun hc => ?_⟩
    rotate_left
    · have ek : withoutList n rows d = .error ("listed", -1) := by
        unfold withoutList
        rw [lx] at hc
        rw [if_neg (by rw [hc]; exact Bool.false_ne_true)]
      rw [ek] at k
      exact k
    have hc' := hc
    rw [lx] at hc'
    have ek : withoutList n rows d = .ok (bookD n (rows.take (toInt d).toNat ++ rows.drop ((toInt d).toNat + 1))) := by
      unfold withoutList
      rw [if_pos hc']
    rw [ek] at k
    cases hu with
    | int i =>
      simp only [isBelow, decide_eq_true_eq] at hc
      obtain ⟨h0, h1⟩ := hc
      refine ⟨_, rfl, _, rfl, _, rfl, _, rfl, ?_⟩
      refine slA_use hL fun p H1 s1 hp => ⟨_, rfl, _, rfl, _, _, rfl, rfl, _, rfl, ?_⟩
      dsimp only [tNoPart]
      refine slA_use (seqT s1 hL) fun q H2 s2 hq => ?_
      rw [cut_take h0 (by omega)] at hp
      rw [cut_drop (by omega) (by omega)] at hq
      have e1 : (i + 1).toNat = i.toNat + 1 := by omega
      rw [e1] at hq
      refine catA_use (seqT s2 hp) hq (by rw [List.length_take, List.length_drop]; omega) fun c H4 s4 hc4 => ⟨(by show 2 ≤ sizeLine; decide), fun z hz4 => ?_⟩
      refine k _ _ (((s1.trans s2).trans s4).trans (same_upd hz4)) ?_
      refine rp_bookNew hc4 (by rw [List.length_append, List.length_take, List.length_drop]; omega) ?_ hz4
      rw [List.map_append, List.map_take, List.map_drop]
      exact (((hr2.take _).app (hr2.drop _)).same ((s1.trans s2).trans s4))
    | _ => exact absurd hc (by simp [isBelow])
theorem ok_beside (T : Txt K mg ad fd) : FnOk P w K mg base (L2.CX P w) 8 (ad 27) (fd 27) ["book", "other"] (spX K (ad 21) (fun _ rows d => rows.length ≤ 500 ∧ (bRows d).length ≤ 500) besideB) := by
  refine T.F_beside.okX sc_beside (fun vs H Q E h => ?_) (fun cdv A outer s H vs Q E hr h => ?_)
  · obtain ⟨v, u, d, n, rows, rfl, _⟩ := h
    rfl
  · obtain ⟨v, u, d, n, rows, rfl, h, hu, hsz, k⟩ := h
    obtain ⟨b, L, xs, rfl, hb, hL, hz, hr2⟩ := rp_book h
    refine ⟨_, (pss_cons (ps_expr (pe_call (ok_need T) (hr.mono (by decide)) rfl T.m_need T.F_need.kp (b_need T) .nil (passes_call (takes_of rfl rfl rfl rfl) fun _ _ _ _ h => h) (pa_cons (pe_call (ok_is_book T) (hr.mono (by decide)) rfl T.m_is_book T.F_is_book.kp (b_is_book T) .nil pass0 (pa_cons (pv 1) pa_nil)) (pa_cons pe_str pa_nil))))
  (pss_cons (ps_set (i := 2) sc_beside.nd rfl (Or.inr rfl) (pe_ix (ixT K) (pv 0) pe_int (fun _ _ => rfl)))
  (pss_cons (ps_set (i := 3) sc_beside.nd rfl (Or.inl rfl) (pe_callTy (tupOf K) (by rfl) T.g_tuple (by decide +kernel) (pa_cons (pe_lc (own := [("things", 4)]) (g := gName 4) rfl sc_beside.nd (piT K (pe_ix (ixT K) (pv 1) pe_int (fun _ _ => rfl))) (blkOk_by (N := ["book", "other", "size", "moved", "things", "thing"]) (sc := defScope s_beside) (by decide +kernel)) (fun _ _ _ _ _ => (pg_name (i := 4) (x := "things") sc_beside.nd rfl (Or.inl rfl))) (fun _ _ _ _ _ => pts_nil) (fun _ _ _ _ _ => (pe_callTy (tupOf K) (by rfl) T.g_tuple (by decide +kernel) (pa_cons (pe_lc (own := [("thing", 5)]) (g := gName 5) rfl sc_beside.nd (piT K (pv 4)) (blkOk_by (N := ["book", "other", "size", "moved", "things", "thing"]) (sc := { kind := PySem.ScopeKind.function, names := [ (PySem.Str.ofString ".0", PySem.NameKind.local), (PySem.Str.ofString "things", PySem.NameKind.local), (PySem.Str.ofString "tuple", PySem.NameKind.globalImplicit), (PySem.Str.ofString "size", PySem.NameKind.cell)], isGenerator := false, isCoroutine := false, more := [] : PySem.Scope }) (by decide +kernel)) (fun _ _ _ _ _ => (pg_name (i := 5) (x := "thing") sc_beside.nd rfl (Or.inl rfl))) (fun _ _ _ _ _ => pts_nil) (fun _ _ _ _ _ => (pe_op op_add (pv 2) (pv 5)))) pa_nil)))) pa_nil)))
  (pss_one (ps_ret (pe_tup (pa_cons (pe_op op_add (pv 2) (pe_ix (ixT K) (pv 1) pe_int (fun _ _ => rfl))) (pa_cons (pe_op (catA K) (pe_ix (ixT K) (pv 0) pe_int (fun _ _ => rfl)) (pv 3)) pa_nil)))))))), ?_⟩
    refine ⟨_, rfl, u, d, rfl, hu, fun H1 s1 => ⟨_, _, rfl, (fun hc => ?_), fun hc => ?_⟩⟩
    rotate_left
    · have ek : besideB n rows d = .error ("other", -1) := by simp [besideB, hc]
      rw [ek] at k
      exact k.same s1
    have ek : besideB n rows d = .ok (bookD (n + bSize d) (rows ++ (bRows d).map fun r => r.map fun x => n + x)) := by simp [besideB, hc]
    rw [ek] at k
    rw [isBook_eq hc] at hu
    obtain ⟨b2, L2, xs2, rfl, hb2, hL2, hz2, hr3⟩ := rp_book hu
    generalize bSize d = m at *
    generalize hrr : bRows d = rows2 at *
    have lx2 : xs2.length = rows2.length := by rw [hr3.length, List.length_map]
    refine ⟨_, rfl, _, _, _, _, rfl, rfl, seqT s1 hb, rfl, ?_⟩
    refine ⟨_, rfl, _, _, _, _, rfl, rfl, seqT s1 hb2, rfl, L2, rfl, ⟨_, seqT s1 hL2⟩, fun D hD => ?_⟩
    refine lcT (K := K) (xs := xs2) (fun _ => true) (fun j => dTup ((rows2.getD j []).map fun x => n + x)) hD (seqT s1 hL2) hz2 (fun j _ _ => noL_dTup _) (fun i v H2 hi s2 Q1 Q2 k1 k2 => ?_) (fun ys H2 s2 hy r2 => ?_)
    · obtain ⟨ns, a2, hn, rfl, t⟩ := hr3.row hi
      have t := t.same (s1.trans s2)
      have en : rows2.getD i [] = ns := by rw [List.getD_eq_getElem?_getD, hn]; rfl
      rw [en] at k1
      refine ⟨rfl, _, rfl, a2, rfl, ⟨_, t.1⟩, fun D2 hD2 => ?_⟩
      refine lcT (K := K) (xs := ns.map V.int) (fun _ => true) (fun j => .int (n + ns.getD j 0)) hD2 t.1 (by rw [List.length_map]; exact t.2) (fun _ _ _ => rfl) (fun j v H3 hj s3 Q3 Q4 k3 k4 => ?_) (fun zs H3 s3 hz3 r3 => ?_)
      · have ev : v = .int (ns.getD j 0) := by
          have hl : j < ns.length := by
            have := (List.getElem?_eq_some_iff.mp hj).1
            simpa using this
          rw [mapD hl] at hj
          exact (Option.some.inj hj).symm
        subst ev
        exact ⟨rfl, _, rfl, _, rfl, _, _, rfl, rfl, k3 rfl _ _ (Same.refl _) (.int _)⟩
      · rw [filter_true] at r3
        have ez : (List.range (ns.map V.int).length).map (fun j => PyData.int (n + ns.getD j 0)) = (ns.map fun x => n + x).map PyData.int := by
          rw [List.length_map, List.map_map]
          exact map_range (fun x => PyData.int (n + x)) 0 ns
        rw [ez] at r3
        have := r3.ofInts
        subst this
        refine tupL_use (SqL.of hz3) fun p H4 s4 hp => ?_
        exact k1 rfl _ _ (s3.trans s4) (TupI.rp ⟨hp, by rw [List.length_map]; exact t.2⟩)
    · rw [filter_true] at r2
      have ez : (List.range xs2.length).map (fun j => dTup ((rows2.getD j []).map fun x => n + x)) = (rows2.map fun r => r.map fun x => n + x).map dTup := by
        rw [lx2, List.map_map]
        exact map_range (fun r : List Int => dTup (r.map fun x => n + x)) [] rows2
      rw [ez] at r2
      have s02 := s1.trans s2
      have ly : ys.length = rows2.length := by rw [r2.length, List.length_map, List.length_map]
      have lx : xs.length = rows.length := by rw [hr2.length, List.length_map]
      dsimp only [tNil]
      refine tupL_use (SqL.of hy) fun p H4 s4 hp => ?_
      refine ⟨_, rfl, _, rfl, _, _, _, _, rfl, rfl, seqT (s02.trans s4) hb2, rfl, _, _, rfl, rfl, _, rfl, _, _, _, _, rfl, rfl, seqT (s02.trans s4) hb, rfl, _, rfl, ?_⟩
      refine catA_use (seqT (s02.trans s4) hL) hp (by omega) fun c H5 s5 hc5 => ⟨(by show 2 ≤ sizeLine; decide), fun z hz5 => ?_⟩
      refine k _ _ (((s02.trans s4).trans s5).trans (same_upd hz5)) ?_
      refine rp_bookNew hc5 (by rw [List.length_append]; omega) ?_ hz5
      rw [List.map_append]
      exact ((hr2.same (s02.trans s4)).app (r2.same s4)).same s5
end
end LK
/-! list(reversed(range(n))) -/
namespace LK
open PySem PySem.Spec PyProof.Rows L2
section
variable {prog : Program} {w : World} {A : Around} {E : Value → Shared → Prop} {s : Shared}
theorem call_rit_hint {it : Addr} {x c : Int} {n : Nat} {Q : Value → Shared → Prop} (hit : IsRangeIter s.heap it x n c)
    (h : ∀ t tk, Q (.int n t) { s with toks := tk }) : wpAny (model prog w) A (call (.builtin "range_iterator.__length_hint__") [.ref it]) Q E s := by
  have hT : s.TypeIs (.ref it) "range_iterator" := ⟨_, hit, rfl⟩
  refine wpAny_call_entry F.slot_range_iterator_length_hint hT F.entry_range_iterator_length_hint ?_ (F.args_range_iterator_length_hint_1 _)
  obtain ⟨hp, g, d, tk, os⟩ := s
  have hit2 : Heap.get? hp it = some _ := hit
  wp_walk using AutoSeq1.wpAny_loadPart' hit2
  exact ⟨_, rfl, h _ _⟩
theorem hint_rit {it : Addr} {x c : Int} {n : Nat} {Q : Bool → Shared → Prop} (hit : IsRangeIter s.heap it x n c) (hlen : n ≤ 2 ^ 24)
    (h : ∀ tk, Q false { s with toks := tk }) : wpAny (model prog w) A (Builtin.List.listLengthHint (.ref it)) Q E s := by
  have hT : s.TypeIs (.ref it) "range_iterator" := ⟨_, hit, rfl⟩
  unfold Builtin.List.listLengthHint
  refine wpAny_bind (wpAny_specialOf hT F.nolen_ra ?_)
  show wpAny _ A (specialOf (Value.ref it) (Str.ofString "__length_hint__") >>= _) _ _ _
  refine wpAny_bind (wpAny_specialOf hT F.hint_ra ?_)
  (generalize hid : ("range_iterator.__length_hint__" : String) = id0; (fail_if_success (clear hid id0)); wp_delta; rw [show splitId id0 = some ("range_iterator", "__length_hint__") from by subst hid; decide +kernel]; subst hid)
  refine wpAny_bind (wpAny_isInstance (b := true) hT (by rw [isSubtype_type]; kernel_rfl) ?_)
  show wpAny _ A (call (.builtin "range_iterator.__length_hint__") [.ref it] >>= _) _ _ _
  refine wpAny_bind (call_rit_hint hit fun t tk => ?_)
  refine wpAny_bind (m := asInt? (.int n t)) (wpAny_pure ?_)
  dsimp only
  have hk : Builtin.List.listTooLong (Int.toNat ((n : Nat) : Int)) = false := by simp [Builtin.List.listTooLong, sizeLine]; omega
  rw [if_neg (by rw [hk]; decide)]
  exact wpAny_pure (h tk)
theorem extend_rit {R : Result → Shared → Prop} {r : Addr} {a c : Int} {n : Nat} (hh : A.handled = none) (hr : IsRangeIter s.heap r a n c) (hlen : n ≤ 2 ^ 24) (S : Addr) (res : Value) (c₀ : Nat) (hS : s.heap.get? S = some { cls := .type "list", data := .seq #[] c₀ })
    (hR : ∀ h' tk acc' c', (∀ b o, b ≠ S → b ≠ r → s.heap.get? b = some o → h'.get? b = some o) → h'.get? S = some { cls := .type "list", dict := none, data := .seq acc' c', slots := #[] } →
      ItemsOf (fun i v => ∃ t, v = .int (a + i * c) t) acc' n → R (.ok (.ret res)) { s with heap := h', toks := tk }) :
    wpAny (model prog w) A.in1 (Builtin.List.listExtendWith (.ref S) (.ref r) res)
      (fun fin s' => match fin with | .done f => R (.ok f) s' | .again c' => c'.quiet = true ∧ codeAny (model prog w) A c' R s') (fun e s' => R (.error e) s') s := by
  have hSr : S ≠ r := fun e => by rw [e] at hS; have hr2 : s.heap.get? r = some _ := hr; rw [hr2] at hS; simp at hS
  have hSf : S ∉ [r] := fun hm => hSr (List.mem_singleton.mp hm)
  have W := (Walks.range (prog := prog) (w := w) (A := A.in1) hh r a c n).toS
  unfold Builtin.List.listExtendWith
  refine wpAny_bind (wpAny_typeOf (T := "range_iterator") ⟨_, hr, rfl⟩ ?_)
  have h1 : Builtin.List.listSameRef (.ref S) (.ref r) = false := by simp [Builtin.List.listSameRef, hSr]
  have h2 : (Value.type "range_iterator" == Value.type "list") = false := by decide
  have h3 : (Value.type "range_iterator" == Value.type "tuple") = false := by decide
  simp only [h1, h2, h3, Bool.or_false, Bool.false_eq_true, if_false]
  refine wpAny_bind (wpAny_pyIter_rangeiter hr ?_)
  refine wpAny_bind (wpAny_holding (hint_rit hr hlen fun tk => ?_))
  refine wpAny_ite_split (fun h => absurd h (by decide)) (fun _ => ?_)
  refine wpAny_pure ⟨plainId_quiet F.plain_extend_loop _, ?_⟩
  have e1 : a + ((0 : Nat) : Int) * c = a := by simp
  have e2 : ((n : Nat) : Int) - ((0 : Nat) : Int) = n := by simp
  refine codeAny_extend_loopS W (by rw [sizeLine_eq]; omega) S hSf res n 0 _ #[] c₀ rfl (Nat.zero_le _) (by rw [e1, e2]; exact hr) hS (ItemsOf.nil _) fun s' acc' c' hm hS' hacc => ?_
  rw [Moved.eq_with hm]
  refine hR s'.heap s'.toks acc' c' (fun b o hb hb2 e => hm.heap b o (fun hmem => ?_) e) hS' hacc
  rcases List.mem_cons.mp hmem with e' | hmem
  · exact hb e'
  · exact hb2 (List.mem_singleton.mp hmem)
theorem list_init_rit {R : Result → Shared → Prop} {r : Addr} {a c : Int} {n : Nat} (hh : A.handled = none) (hr : IsRangeIter s.heap r a n c) (hlen : n ≤ 2 ^ 24) (S : Addr) (hS : s.heap.get? S = some { cls := .type "list", data := .seq #[] })
    (hR : ∀ h' tk acc' c', (∀ b o, b ≠ S → b ≠ r → s.heap.get? b = some o → h'.get? b = some o) → h'.get? S = some { cls := .type "list", dict := none, data := .seq acc' c', slots := #[] } →
      ItemsOf (fun i v => ∃ t, v = .int (a + i * c) t) acc' n → R (.ok (.ret .none)) { s with heap := h', toks := tk }) :
    wpAny (model prog w) A.in1 (Builtin.«list.__init__» ⟨[.ref S, .ref r], []⟩)
      (fun fin s' => match fin with | .done f => R (.ok f) s' | .again c' => c'.quiet = true ∧ codeAny (model prog w) A c' R s') (fun e s' => R (.error e) s') s := by
  have hSr : S ≠ r := fun e => by rw [e] at hS; have hr2 : s.heap.get? r = some _ := hr; rw [hr2] at hS; simp at hS
  show wpAny _ _ (do let old ← Builtin.List.listItems (.ref S); Builtin.List.listUpdate (.ref S) (fun _ => #[]); letGo old.toList.reverse; Builtin.List.listExtendWith (.ref S) (.ref r) .none) _ _ s
  refine wpAny_bind ?_
  unfold Builtin.List.listItems
  refine wpAny_bind (wpAny_seqItems hS rfl (wpAny_pure ?_))
  show wpAny _ _ (updateSeq S (fun _ => #[]) >>= fun _ => letGo (#[] : Array Value).toList.reverse >>= fun _ => Builtin.List.listExtendWith (.ref S) (.ref r) .none) _ _ s
  refine wpAny_bind (wpAny_updateSeq hS rfl ?_)
  have hS₂ := Heap.get?_update_self (Obj.mapSeq (fun _ => (#[] : Array Value))) hS rfl
  have oth : ∀ b o, b ≠ S → s.heap.get? b = some o → (s.heap.update S (Obj.mapSeq (fun _ => (#[] : Array Value)))).get? b = some o :=
    fun b o hb e => (Heap.get?_update_other _ _ (Ne.symm hb)).trans e
  refine wpAny_bind (wpAny_letGo ?_)
  refine extend_rit hh (oth r _ (Ne.symm hSr) hr) hlen S .none _ hS₂ fun h' tk acc' c' hk hS' hacc => ?_
  exact hR h' tk acc' c' (fun b o hb hb2 e => hk b o hb hb2 (oth b o hb e)) hS' hacc
theorem call_list_rit {Q : Value → Shared → Prop} {r : Addr} {a c : Int} {n : Nat} (hh : A.handled = none) (hr : IsRangeIter s.heap r a n c) (hlen : n ≤ 2 ^ 24)
    (hQ : ∀ h' tk acc' c', (∀ b o, b ≠ r → s.heap.get? b = some o → h'.get? b = some o) →
      h'.get? s.heap.objs.size = some { cls := .type "list", dict := none, data := .seq acc' c', slots := #[] } → ItemsOf (fun i v => ∃ t, v = .int (a + i * c) t) acc' n → Q (.ref s.heap.objs.size) { s with heap := h', toks := tk }) :
    wpAny (model prog w) A (call (.type "list") [.ref r]) Q E s := by
  refine callType_codes (Q₁ := fun obj s₁ => obj = .ref s.heap.objs.size ∧ s₁ = { s with heap := s.heap.push { cls := .type "list", data := .seq #[] } }) F.called_list (F.typeCall_list_1 _) F.entry_list_init
    (code_list_new _ ⟨rfl, rfl⟩) fun obj s₁ h₁ => ?_
  obtain ⟨rfl, rfl⟩ := h₁
  have hS : (s.heap.push { cls := .type "list", data := .seq #[] }).get? s.heap.objs.size = some { cls := .type "list", data := .seq #[] } := Heap.get?_push_size _ rfl
  refine ⟨⟨_, hS, rfl⟩, F.args_list_init_2 _ _, list_init_rit (A := A.in1) hh (Heap.get?_push_of_some _ hr) hlen _ hS fun h' tk acc' c' hk hS' hacc => ?_⟩
  exact ⟨rfl, hQ h' tk acc' c' (fun b o hb e => hk b o (Nat.ne_of_lt (Heap.lt_size e)) hb (Heap.get?_push_of_some _ e)) hS' hacc⟩
end
/-- the ints b - 1, b - 2 .. a -/
def rgR (a b : Int) : List V := (List.range (b - a).toNat).map fun i => V.int (b - 1 - (i : Nat))
def tLstRev (te : L2.St → Hp → (Int → Int → Hp → Prop) → Prop) : TE := fun σ H Q => te σ H fun a b H1 => RgOk a b ∧ ∀ q, H1 q = none → Q (.ref q) (upd H1 q (.lst (rgR a b)))
theorem vals_rgR {a b : Int} {acc : Array Value} (h : ItemsOf (fun i v => ∃ t, v = .int (a + (((b - a).toNat : Nat) : Int) - 1 + i * (-1)) t) acc (b - a).toNat) : Vals (rgR a b) acc.toList := by
  have e : acc.toList.length = (b - a).toNat := by rw [Array.length_toList]; exact h.1
  unfold rgR
  rw [← e]
  refine vals_of_get acc.toList _ fun j u hj => ?_
  obtain ⟨t, rfl⟩ := h.2 j u (by rw [← hj, Array.getElem?_toList])
  have hj2 : j < acc.toList.length := (List.getElem?_eq_some_iff.mp hj).1
  refine ⟨t, ?_⟩
  congr 1
  omega
theorem pe_listRev {X : Cx} {e : Expr} {te : L2.St → Hp → (Int → Int → Hp → Prop) → Prop} {p p2 pos pos2 : Pos} (hc : X.calm = true) (hg : Gl X "list") (hm : X.mg "list" = none) (hg2 : Gl X "reversed") (hm2 : X.mg "reversed" = none) (he : PRg X e te)
    (na : starEach [e] X.env = (false, eval e X.env) :: starEach [] X.env := by rfl)
    (nb : starEach [.Call (.Name "reversed" p2) [e] [] pos2] X.env = (false, eval (.Call (.Name "reversed" p2) [e] [] pos2) X.env) :: starEach [] X.env := by rfl) :
    PE X (.Call (.Name "list" p) [.Call (.Name "reversed" p2) [e] [] pos2] [] pos) (tLstRev te) := by
  refine ⟨fun pins s σ H Q I h => ?_⟩
  refine Call_ (ld_blt I hg hm boot_list (PyProof.Rows.callWith_type1 (args_cons (Call_ (ld_blt I hg2 hm2 PyProof.Rows.boot_reversed (PyProof.Rows.callWith_type1 (args_cons (thn (he pins s σ H _ I h) fun u s1 hx => args_nil ?_) na) na rfl))) nb) nb))
  obtain ⟨r, a, b, t, w1, v, H1, eu, hr, I1, ⟨b1, b2, b3, b4, b5⟩, q⟩ := hx
  subst eu
  have hn : Builtin.Range.rangeSize a b 1 = (((b - a).toNat : Nat) : Int) := rangeSize_nat a b
  refine call_reversed_range hr (smallRev_one b1 b2 b3 b4) ?_
  refine args_nil ?_
  have hz : (s1.heap.push (rngRevObj a b 1)).objs.size = s1.heap.objs.size + 1 := Heap.size_push ..
  have hit : IsRangeIter (s1.heap.push (rngRevObj a b 1)) s1.heap.objs.size (a + (((b - a).toNat : Nat) : Int) - 1) (((b - a).toNat : Nat) : Int) (-1) := by
    have e1 : a + (((b - a).toNat : Nat) : Int) - 1 = a + (Builtin.Range.rangeSize a b 1 - 1) * 1 := by rw [hn]; omega
    rw [e1, ← hn]
    exact Heap.get?_push_size _ rfl
  refine call_list_rit (s := { s1 with heap := s1.heap.push (rngRevObj a b 1) }) (I1.ok.hd hc) hit b5 fun h' tk acc c' hk e' hi => ?_
  have hk2 : ∀ b0 o, s1.heap.get? b0 = some o → h'.get? b0 = some o := fun b0 o e => hk b0 o (Nat.ne_of_lt (Heap.lt_size e)) (Heap.get?_push_of_some _ e)
  have hD : s1.heap.objs.size ≤ (s1.heap.push (rngRevObj a b 1)).objs.size := by rw [hz]; exact Nat.le_succ _
  refine ⟨.ref (s1.heap.push (rngRevObj a b 1)).objs.size, upd H1 (s1.heap.push (rngRevObj a b 1)).objs.size (.lst (rgR a b)), I1.laid hk2 hD (show ObjOk X.prog X.w _ _ _ (.lst (rgR a b)) from ⟨?_, acc.toList, c', vals_rgR hi, ?_⟩), rfl, q _ (I1.hok.fresh hD)⟩
  · have : (rgR a b).length = (b - a).toNat := by unfold rgR; rw [List.length_map, List.length_range]
    rw [this, sizeLine_eq]; omega
  · rw [Array.toArray_toList]; exact e'
end LK
namespace LK
open PySem PySem.Spec PyProof.Rows L2
def spRenum (K : PySem.W.Frag) : Sp := fun vs H Q _ => ∃ v a n rows line, vs = [v, .ref a] ∧ Rp K H v (bookD n rows) ∧ (SqL K H a (line.map V.int) ∨ SqT K H a (line.map V.int)) ∧ line.length ≤ 1000 ∧ line.Nodup ∧ (∀ r ∈ rows, ∀ x ∈ r, x ∈ line) ∧
  ∀ u H', Same H H' → Rp K H' u (bookD n (renum line rows)) → Q u H'
section
variable {P : Program} {w : World} {K : PySem.W.Frag} {mg : Str → Option Value} {base : Heap} {ad : Nat → Addr} {fd : Nat → FuncData}
theorem ok_renumbered (T : Txt K mg ad fd) : FnOk P w K mg base CX0 1 (ad 28) (fd 28) ["book", "line"] (spRenum K) := by
  refine T.F_renumbered.ok sc_renumbered (fun vs H Q E h => ?_) (fun cdv A outer s H vs Q E hr h => ?_)
  · obtain ⟨v, a, n, rows, line, rfl, _⟩ := h
    rfl
  · obtain ⟨v, a, n, rows, line, rfl, h, hl, hz, nd, hin, k⟩ := h
    obtain ⟨b, L, xs, rfl, hb, hL, hxz, hr2⟩ := rp_book h
    have lx : xs.length = rows.length := by rw [hr2.length, List.length_map]
    refine ⟨_, (pss_cons (ps_set (i := 2) sc_renumbered.nd rfl (Or.inr rfl) (pe_dc (own := [("k", 3), ("thing", 4)]) (g := gTup K 2 (gCons (gName 3) (gCons (gName 4) gNil))) rfl sc_renumbered.nd (pi_enumA (K := K) rfl T.g_enumerate (pa_cons (pv 1) pa_nil)) (blkOk_by (N := ["book", "line", "numbers", "k", "thing", "things"]) (sc := defScope s_renumbered) (by decide +kernel)) (fun _ _ _ _ _ => (pgT K (n := 2) rfl (pgs_cons (pg_name (i := 3) (x := "k") sc_renumbered.nd rfl (Or.inl rfl)) (pgs_cons (pg_name (i := 4) (x := "thing") sc_renumbered.nd rfl (Or.inl rfl)) pgs_nil)))) (fun _ _ _ _ _ => pts_nil) (fun _ _ _ _ _ => (pv 4)) (fun _ _ _ _ _ => (pv 3))))
  (pss_one (ps_ret (pe_tup (pa_cons (pe_ix (ixT K) (pv 0) pe_int (fun _ _ => rfl)) (pa_cons (pe_callTy (tupOf K) (by rfl) T.g_tuple (by decide +kernel) (pa_cons (pe_lc (own := [("things", 5)]) (g := gName 5) rfl sc_renumbered.nd (piT K (pe_ix (ixT K) (pv 0) pe_int (fun _ _ => rfl))) (blkOk_by (N := ["book", "line", "numbers", "k", "thing", "things"]) (sc := defScope s_renumbered) (by decide +kernel)) (fun _ _ _ _ _ => (pg_name (i := 5) (x := "things") sc_renumbered.nd rfl (Or.inl rfl))) (fun _ _ _ _ _ => pts_nil) (fun _ _ _ _ _ => (pe_callTy (tupOf K) (by rfl) T.g_tuple (by decide +kernel) (pa_cons (pe_callB (srtI K) (by rfl) T.g_sorted (by decide +kernel) (pa_cons (pe_lc (own := [("thing", 4)]) (g := gName 4) rfl sc_renumbered.nd (piT K (pv 5)) (blkOk_by (N := ["book", "line", "numbers", "k", "thing", "things"]) (sc := { kind := PySem.ScopeKind.function, names := [ (PySem.Str.ofString ".0", PySem.NameKind.local), (PySem.Str.ofString "things", PySem.NameKind.local), (PySem.Str.ofString "tuple", PySem.NameKind.globalImplicit), (PySem.Str.ofString "sorted", PySem.NameKind.globalImplicit), (PySem.Str.ofString "numbers", PySem.NameKind.cell)], isGenerator := false, isCoroutine := false, more := [] : PySem.Scope }) (by decide +kernel)) (fun _ _ _ _ _ => (pg_name (i := 4) (x := "thing") sc_renumbered.nd rfl (Or.inl rfl))) (fun _ _ _ _ _ => pts_nil) (fun _ _ _ _ _ => (pe_dget (hu_of hr) (pv 2) (pv 4) (fun _ _ => rfl)))) pa_nil)) pa_nil)))) pa_nil)) pa_nil)))))), ?_⟩
    refine ⟨_, rfl, a, line.map V.int, rfl, ?_⟩
    rcases hl with hl | hl
    · refine .inl ⟨hl, fun D hD => dc_enum (K := K) (a := a) (line := line) hD hz nd _ (.inl ⟨rfl, hl⟩) (fun i x TT H1 Q0 hx hT s1 _ Q1 q1 => ⟨TT, _, rfl, SqT.of upd_same, rfl, _, _, rfl, _, _, rfl, rfl, rfl, rfl, _, rfl, _, rfl, q1⟩) (fun _ _ _ _ hq h => hq _ _ h)
        (fun v σ1 H2 Q0 Q1 hq ⟨z1, z2, z3, z4, z5, z6, z7, z8, z9, z10, z11, z12, z13⟩ => ⟨z1, z2, z3, z4, z5, z6, z7, z8, z9, z10, z11, z12, hq _ _ z13⟩) (fun kvs H1 s1 hk dk => ?_)⟩
      refine ⟨_, rfl, _, _, _, _, rfl, rfl, seqT s1 hb, rfl, _, rfl, _, _, _, _, rfl, rfl, seqT s1 hb, rfl, L, rfl, ⟨_, seqT s1 hL⟩, fun D2 hD2 => ?_⟩
      refine lcT (K := K) (xs := xs) (fun _ => true) (fun j => dTup (srt ((rows.getD j []).map fun x => ((line.idxOf x : Nat) : Int)))) hD2 (seqT s1 hL) hxz (fun j _ _ => noL_dTup _) (fun i v H2 hi s2 Q1 Q2 k1 k2 => ?_) (fun ys H2 s2 hy r2 => ?_)
      · obtain ⟨ns, a2, hn, rfl, t⟩ := hr2.row hi
        have t := t.same (s1.trans s2)
        have hmem := hin ns (List.mem_of_getElem? hn)
        have en : rows.getD i [] = ns := by rw [List.getD_eq_getElem?_getD, hn]; rfl
        rw [en] at k1
        refine ⟨rfl, _, rfl, a2, rfl, ⟨_, t.1⟩, fun D3 hD3 => ?_⟩
        refine lcT (K := K) (xs := ns.map V.int) (fun _ => true) (fun j => .int ((line.idxOf (ns.getD j 0) : Nat) : Int)) hD3 t.1 (by rw [List.length_map]; exact t.2) (fun _ _ _ => rfl) (fun j v H3 hj s3 Q3 Q4 k3 k4 => ?_) (fun zs H3 s3 hz3 r3 => ?_)
        · have hl3 : j < ns.length := by
            have := (List.getElem?_eq_some_iff.mp hj).1
            simpa using this
          have ev : v = .int (ns.getD j 0) := by
            rw [mapD hl3] at hj
            exact (Option.some.inj hj).symm
          subst ev
          have hm : ns.getD j 0 ∈ line := by
            rw [List.getD_eq_getElem?_getD, List.getElem?_eq_getElem hl3]
            exact hmem _ (List.getElem_mem hl3)
          have hk3 := s3 _ _ (s2 _ _ hk)
          have hv : valV kvs (Sum.inl (ns.getD j 0)) = some (V.int (line.idxOf (ns.getD j 0) : Nat)) := by
            rw [dk.2, List.take_length, if_pos hm]
          exact ⟨rfl, _, rfl, _, rfl, _, _, rfl, .inl ⟨kvs, Sum.inl (ns.getD j 0), .inl hk3, rfl, hv.symm⟩, k3 rfl _ _ (Same.refl _) (.int _)⟩
        · rw [filter_true] at r3
          have ez : (List.range (ns.map V.int).length).map (fun j => PyData.int ((line.idxOf (ns.getD j 0) : Nat) : Int)) = (ns.map fun x => ((line.idxOf x : Nat) : Int)).map PyData.int := by
            rw [List.length_map, List.map_map]
            exact map_range (fun x => PyData.int ((line.idxOf x : Nat) : Int)) 0 ns
          rw [ez] at r3
          have := r3.ofInts
          subst this
          refine ⟨D3, _, rfl, SqL.of hz3, fun ns' q pm pw hq => ?_⟩
          have en2 := srt_eq pm pw
          subst en2
          dsimp only [tNil]
          refine tupL_use (SqL.of upd_same) fun p H4 s4 hp => ?_
          exact k1 rfl _ _ ((s3.trans (same_upd hq)).trans s4) (TupI.rp ⟨hp, by rw [srt_length, List.length_map]; exact t.2⟩)
      · rw [filter_true] at r2
        have ez : (List.range xs.length).map (fun j => dTup (srt ((rows.getD j []).map fun x => ((line.idxOf x : Nat) : Int)))) = (renum line rows).map dTup := by
          rw [lx]
          unfold renum
          rw [List.map_map]
          exact map_range (fun r : List Int => dTup (srt (r.map fun x => ((line.idxOf x : Nat) : Int)))) [] rows
        rw [ez] at r2
        have ly : ys.length ≤ 1000 := by
          rw [r2.length, List.length_map]
          unfold renum
          rw [List.length_map]
          omega
        dsimp only [tNil]
        refine tupL_use (SqL.of hy) fun p H4 s4 hp => ⟨(by show 2 ≤ sizeLine; decide), fun z hz4 => ?_⟩
        exact k _ _ (((s1.trans s2).trans s4).trans (same_upd hz4)) (rp_bookNew hp ly (r2.same s4) hz4)
    · refine .inr ⟨hl, fun D hD => dc_enum (K := K) (a := a) (line := line) hD hz nd _ (.inr ⟨rfl, hl⟩) (fun i x TT H1 Q0 hx hT s1 _ Q1 q1 => ⟨TT, _, rfl, SqT.of upd_same, rfl, _, _, rfl, _, _, rfl, rfl, rfl, rfl, _, rfl, _, rfl, q1⟩) (fun _ _ _ _ hq h => hq _ _ h)
        (fun v σ1 H2 Q0 Q1 hq ⟨z1, z2, z3, z4, z5, z6, z7, z8, z9, z10, z11, z12, z13⟩ => ⟨z1, z2, z3, z4, z5, z6, z7, z8, z9, z10, z11, z12, hq _ _ z13⟩) (fun kvs H1 s1 hk dk => ?_)⟩
      refine ⟨_, rfl, _, _, _, _, rfl, rfl, seqT s1 hb, rfl, _, rfl, _, _, _, _, rfl, rfl, seqT s1 hb, rfl, L, rfl, ⟨_, seqT s1 hL⟩, fun D2 hD2 => ?_⟩
      refine lcT (K := K) (xs := xs) (fun _ => true) (fun j => dTup (srt ((rows.getD j []).map fun x => ((line.idxOf x : Nat) : Int)))) hD2 (seqT s1 hL) hxz (fun j _ _ => noL_dTup _) (fun i v H2 hi s2 Q1 Q2 k1 k2 => ?_) (fun ys H2 s2 hy r2 => ?_)
      · obtain ⟨ns, a2, hn, rfl, t⟩ := hr2.row hi
        have t := t.same (s1.trans s2)
        have hmem := hin ns (List.mem_of_getElem? hn)
        have en : rows.getD i [] = ns := by rw [List.getD_eq_getElem?_getD, hn]; rfl
        rw [en] at k1
        refine ⟨rfl, _, rfl, a2, rfl, ⟨_, t.1⟩, fun D3 hD3 => ?_⟩
        refine lcT (K := K) (xs := ns.map V.int) (fun _ => true) (fun j => .int ((line.idxOf (ns.getD j 0) : Nat) : Int)) hD3 t.1 (by rw [List.length_map]; exact t.2) (fun _ _ _ => rfl) (fun j v H3 hj s3 Q3 Q4 k3 k4 => ?_) (fun zs H3 s3 hz3 r3 => ?_)
        · have hl3 : j < ns.length := by
            have := (List.getElem?_eq_some_iff.mp hj).1
            simpa using this
          have ev : v = .int (ns.getD j 0) := by
            rw [mapD hl3] at hj
            exact (Option.some.inj hj).symm
          subst ev
          have hm : ns.getD j 0 ∈ line := by
            rw [List.getD_eq_getElem?_getD, List.getElem?_eq_getElem hl3]
            exact hmem _ (List.getElem_mem hl3)
          have hk3 := s3 _ _ (s2 _ _ hk)
          have hv : valV kvs (Sum.inl (ns.getD j 0)) = some (V.int (line.idxOf (ns.getD j 0) : Nat)) := by
            rw [dk.2, List.take_length, if_pos hm]
          exact ⟨rfl, _, rfl, _, rfl, _, _, rfl, .inl ⟨kvs, Sum.inl (ns.getD j 0), .inl hk3, rfl, hv.symm⟩, k3 rfl _ _ (Same.refl _) (.int _)⟩
        · rw [filter_true] at r3
          have ez : (List.range (ns.map V.int).length).map (fun j => PyData.int ((line.idxOf (ns.getD j 0) : Nat) : Int)) = (ns.map fun x => ((line.idxOf x : Nat) : Int)).map PyData.int := by
            rw [List.length_map, List.map_map]
            exact map_range (fun x => PyData.int ((line.idxOf x : Nat) : Int)) 0 ns
          rw [ez] at r3
          have := r3.ofInts
          subst this
          refine ⟨D3, _, rfl, SqL.of hz3, fun ns' q pm pw hq => ?_⟩
          have en2 := srt_eq pm pw
          subst en2
          dsimp only [tNil]
          refine tupL_use (SqL.of upd_same) fun p H4 s4 hp => ?_
          exact k1 rfl _ _ ((s3.trans (same_upd hq)).trans s4) (TupI.rp ⟨hp, by rw [srt_length, List.length_map]; exact t.2⟩)
      · rw [filter_true] at r2
        have ez : (List.range xs.length).map (fun j => dTup (srt ((rows.getD j []).map fun x => ((line.idxOf x : Nat) : Int)))) = (renum line rows).map dTup := by
          rw [lx]
          unfold renum
          rw [List.map_map]
          exact map_range (fun r : List Int => dTup (srt (r.map fun x => ((line.idxOf x : Nat) : Int)))) [] rows
        rw [ez] at r2
        have ly : ys.length ≤ 1000 := by
          rw [r2.length, List.length_map]
          unfold renum
          rw [List.length_map]
          omega
        dsimp only [tNil]
        refine tupL_use (SqL.of hy) fun p H4 s4 hp => ⟨(by show 2 ≤ sizeLine; decide), fun z hz4 => ?_⟩
        exact k _ _ (((s1.trans s2).trans s4).trans (same_upd hz4)) (rp_bookNew hp ly (r2.same s4) hz4)
end
end LK
namespace LK
open PySem PySem.Spec PyProof.Rows L2
theorem line_all {n : Int} {line : List Int} (nd : line.Nodup) (hb : ∀ x ∈ line, 0 ≤ x ∧ x < n) (hl : (line.length : Int) = n) {x : Int} (h0 : 0 ≤ x) (hx : x < n) : x ∈ line := by
  apply Classical.byContradiction
  intro hm
  have h1 : (x :: line).Nodup := List.nodup_cons.mpr ⟨hm, nd⟩
  have h2 : (x :: line) ⊆ (List.range n.toNat).map fun i : Nat => (i : Int) := fun y hy => by
    have : 0 ≤ y ∧ y < n := by
      rcases List.mem_cons.mp hy with rfl | hy
      · exact ⟨h0, hx⟩
      · exact hb y hy
    exact List.mem_map.mpr ⟨y.toNat, List.mem_range.mpr (by omega), by omega⟩
  have := nodup_le h1 h2
  rw [List.length_map, List.length_range, List.length_cons] at this
  omega
theorem revRange_length (n : Nat) : (revRange n).length = n := by unfold revRange; rw [List.length_map, List.length_range]
theorem rgR_rev {n : Int} (h : 0 ≤ n) : rgR 0 n = (revRange n.toNat).map V.int := by
  unfold rgR revRange
  rw [List.map_map, Int.sub_zero]
  refine List.map_congr_left fun i hi => ?_
  have := List.mem_range.mp hi
  show V.int (n - 1 - (i : Nat)) = V.int ((n.toNat - 1 - i : Nat) : Int)
  congr 1
  omega
theorem revRange_mem {n : Int} {x : Int} (h0 : 0 ≤ x) (hx : x < n) : x ∈ revRange n.toNat := by
  unfold revRange
  exact List.mem_map.mpr ⟨n.toNat - 1 - x.toNat, List.mem_range.mpr (by omega), by omega⟩
theorem revRange_nodup (n : Nat) : (revRange n).Nodup := by
  unfold revRange
  refine List.Pairwise.map _ ?_ (List.Pairwise.and_mem.mp (List.pairwise_lt_range (n := n)))
  intro a b hab
  obtain ⟨ha, hb, h⟩ := hab
  have := List.mem_range.mp hb
  intro e
  omega
section
variable {P : Program} {w : World} {K : PySem.W.Frag} {mg : Str → Option Value} {base : Heap} {ad : Nat → Addr} {fd : Nat → FuncData}
theorem ok_rebased (T : Txt K mg ad fd) : FnOk P w K mg base (L2.CX P w) 7 (ad 29) (fd 29) ["book", "line"] (spX K (ad 21) (fun n rows _ => RowsIn n rows) rebasedB) := by
  refine T.F_rebased.okX sc_rebased (fun vs H Q E h => ?_) (fun cdv A outer s H vs Q E hr h => ?_)
  · obtain ⟨v, u, d, n, rows, rfl, _⟩ := h
    rfl
  · obtain ⟨v, u, d, n, rows, rfl, h, hu, hin, k⟩ := h
    have h0 := h
    obtain ⟨b, L, xs, rfl, hb, hL, hz, hr2⟩ := rp_book h
    refine ⟨_, (pss_cons (ps_expr (pe_call (ok_need T) (hr.mono (by decide)) rfl T.m_need T.F_need.kp (b_need T) .nil (passes_call (takes_of rfl rfl rfl rfl) fun _ _ _ _ h => h) (pa_cons (pe_call (ok_is_line T) (hr.mono (by decide)) rfl T.m_is_line T.F_is_line.kp (b_is_line T) .nil pass0 (pa_cons (pe_ix (ixT K) (pv 0) pe_int (fun _ _ => rfl)) (pa_cons (pv 1) pa_nil))) (pa_cons pe_str pa_nil))))
  (pss_one (ps_ret (pe_call (ok_renumbered T) (hr.mono (by decide)) rfl T.m_renumbered T.F_renumbered.kp (b_renumbered T) .nil pass0 (pa_cons (pv 0) (pa_cons (pv 1) pa_nil)))))), ?_⟩
    refine ⟨_, rfl, _, _, _, _, rfl, rfl, hb, rfl, _, rfl, n, u, d, rfl, hu, fun H1 s1 => ?_⟩
    cases e : isLine n d with
    | false =>
      have ek : rebasedB n rows d = .error ("line", -1) := by simp [rebasedB, e]
      rw [ek] at k
      exact ⟨false, _, rfl, (fun z => by cases z), fun _ => k.same s1⟩
    | true =>
      have ek : rebasedB n rows d = .ok (bookD n (renum (dInts d) rows)) := by simp [rebasedB, e]
      rw [ek] at k
      have e1 : areUnlike n d = true ∧ ((dInts d).length : Int) = n := by
        unfold isLine at e
        rw [Bool.and_eq_true, decide_eq_true_eq] at e
        exact e
      have e2 : areBelow n d = true ∧ (dInts d).Nodup := by
        have := e1.1
        unfold areUnlike at this
        rw [Bool.and_eq_true, decide_eq_true_eq] at this
        exact this
      have ed := areBelow_tup e2.1
      have hbl : ∀ x ∈ dInts d, 0 ≤ x ∧ x < n := by
        have := e2.1
        rw [ed] at this
        replace this : ((dInts d).map PyData.int).all (isBelow n) = true := this
        rw [List.all_map] at this
        intro x hx
        have := List.all_eq_true.mp this x hx
        simpa [isBelow] using this
      rw [ed] at hu
      obtain ⟨a, rfl, ta⟩ := hu.tupI
      have ta1 := ta.same s1
      refine ⟨true, _, rfl, (fun _ => ?_), fun z => by cases z⟩
      refine ⟨_, rfl, _, rfl, _, a, n, rows, dInts d, rfl, h0.same s1, .inr ta1.1, ta1.2, e2.2, fun r hr x hx => ?_, fun u H' s' r => k u H' (s1.trans s') r⟩
      exact line_all e2.2 hbl e1.2 (hin r hr x hx).1 (hin r hr x hx).2
theorem ok_mirrored (T : Txt K mg ad fd) : FnOk P w K mg base CX0 2 (ad 30) (fd 30) ["book"] (fun vs H Q _ => ∃ v n rows, vs = [v] ∧ Rp K H v (bookD n rows) ∧ RowsIn n rows ∧ 0 ≤ n ∧ n ≤ 1000 ∧ ∀ u H', Same H H' → Rp K H' u (mirroredB n rows) → Q u H') := by
  refine T.F_mirrored.ok sc_mirrored (fun vs H Q E h => ?_) (fun cdv A outer s H vs Q E hr h => ?_)
  · obtain ⟨v, n, rows, rfl, _⟩ := h
    rfl
  · obtain ⟨v, n, rows, rfl, h, hin, h1, h2, k⟩ := h
    have h0 := h
    obtain ⟨b, L, xs, rfl, hb, hL, hz, hr2⟩ := rp_book h
    refine ⟨_, (pss_one (ps_ret (pe_call (ok_renumbered T) (hr.mono (by decide)) rfl T.m_renumbered T.F_renumbered.kp (b_renumbered T) .nil pass0 (pa_cons (pv 0) (pa_cons (pe_listRev rfl rfl T.g_list rfl T.g_reversed (prg_1 rfl T.g_range (pe_ix (ixT K) (pv 0) pe_int (fun _ _ => rfl)))) pa_nil))))), ?_⟩
    refine ⟨_, rfl, _, rfl, _, _, _, _, rfl, rfl, hb, rfl, _, rfl, RgOk.of_le (by decide) (by omega) (by decide) h1, fun q hq => ?_⟩
    have s1 := same_upd (o := .lst (rgR 0 n)) hq
    refine ⟨_, q, n, rows, revRange n.toNat, rfl, h0.same s1, .inl ?_, by rw [revRange_length]; omega, revRange_nodup _, fun r hr x hx => revRange_mem (hin r hr x hx).1 (hin r hr x hx).2, fun u H' s' r => k u H' (s1.trans s') r⟩
    rw [← rgR_rev h1]
    exact SqL.of upd_same
end
end LK
namespace LK
open PySem PySem.Spec PyProof.Rows L2
def spMir (K : PySem.W.Frag) : Sp := fun vs H Q _ => ∃ v n rows, vs = [v] ∧ Rp K H v (bookD n rows) ∧ RowsIn n rows ∧ 0 ≤ n ∧ n ≤ 1000 ∧ ∀ u H', Same H H' → Rp K H' u (mirroredB n rows) → Q u H'
/-- what _law_do does, by its first argument -/
inductive DoSp (K : PySem.W.Frag) (C : Addr) : Int → V → V → Hp → VK → XK → Prop
  | kept {v u : V} {H : Hp} {Q : VK} {E : XK} : spXN K C (fun _ _ _ => True) keptTo [v, u] H Q E → DoSp K C 0 v u H Q E
  | more {v u : V} {H : Hp} {Q : VK} {E : XK} : spX K C (fun _ rows _ => rows.length ≤ 500) withList [v, u] H Q E → DoSp K C 1 v u H Q E
  | less {v u : V} {H : Hp} {Q : VK} {E : XK} : spX K C (fun _ _ _ => True) withoutList [v, u] H Q E → DoSp K C 2 v u H Q E
  | beside {v u : V} {H : Hp} {Q : VK} {E : XK} : spX K C (fun _ rows d => rows.length ≤ 500 ∧ (bRows d).length ≤ 500) besideB [v, u] H Q E → DoSp K C 3 v u H Q E
  | line {v u : V} {H : Hp} {Q : VK} {E : XK} : spX K C (fun n rows _ => RowsIn n rows) rebasedB [v, u] H Q E → DoSp K C 4 v u H Q E
  | mirror {v u : V} {H : Hp} {Q : VK} {E : XK} : spMir K [v] H Q E → DoSp K C 5 v u H Q E
  | near {v u : V} {H : Hp} {Q : VK} {E : XK} : spX K C (fun n rows _ => BookIn n rows) nearOfX [v, u] H Q E → DoSp K C 6 v u H Q E
  | between {v u : V} {H : Hp} {Q : VK} {E : XK} : spX K C (fun n rows _ => BookIn n rows) betweenX [v, u] H Q E → DoSp K C 7 v u H Q E
  | tied {v x y : V} {a : Addr} {H : Hp} {Q : VK} {E : XK} : SqT K H a [x, y] → spX2 K C (fun _ _ => True) isTiedX [v, x, y] H Q E → DoSp K C 8 v (.ref a) H Q E
def spDo (K : PySem.W.Frag) (C : Addr) : Sp := fun vs H Q E => ∃ w v u nm, vs = [.int w, v, u, .bl nm] ∧ DoSp K C w v u H Q E
section
variable {P : Program} {w : World} {K : PySem.W.Frag} {mg : Str → Option Value} {base : Heap} {ad : Nat → Addr} {fd : Nat → FuncData}
theorem ok__law_do (T : Txt K mg ad fd) : FnOk P w K mg base (L2.CX P w) 10 (ad 58) (fd 58) ["_law_which", "_law_book", "_law_one", "_law_named"] (spDo K (ad 21)) := by
  refine T.F__law_do.okX sc__law_do (fun vs H Q E h => ?_) (fun cdv A outer s H vs Q E hr h => ?_)
  · obtain ⟨_, v, u, nm, rfl, _⟩ := h
    rfl
  · obtain ⟨_, v, u, nm, rfl, h⟩ := h
    refine ⟨_, (pss_cons (ps_if (pt_cmpR op_eq (pv 0) pe_int (nomark _)) (pss_one (ps_ret (pe_ifExp (pt_val (pv 3)) (pe_callKO (ok_kept_to T) (hr.mono (by decide)) rfl T.m_kept_to T.F_kept_to.kp (kb_kept_to_lot_book T) (passes_call (takes_of rfl rfl rfl rfl) fun _ _ _ _ h => h) (pk_cons (pv 2) (pk_cons (pv 1) pk_nil))) (pe_call (ok_kept_to T) (hr.mono (by decide)) rfl T.m_kept_to T.F_kept_to.kp (b_kept_to T) .nil (passes_call (takes_of rfl rfl rfl rfl) fun _ _ _ _ h => h) (pa_cons (pv 1) (pa_cons (pv 2) pa_nil))))))
  pss_nil)
  (pss_cons (ps_if (pt_cmpR op_eq (pv 0) pe_int (nomark _)) (pss_one (ps_ret (pe_ifExp (pt_val (pv 3)) (pe_callKO (ok_with_list T) (hr.mono (by decide)) rfl T.m_with_list T.F_with_list.kp (kb_with_list_things_book T) (passes_call (takes_of rfl rfl rfl rfl) fun _ _ _ _ h => h) (pk_cons (pv 2) (pk_cons (pv 1) pk_nil))) (pe_call (ok_with_list T) (hr.mono (by decide)) rfl T.m_with_list T.F_with_list.kp (b_with_list T) .nil (passes_call (takes_of rfl rfl rfl rfl) fun _ _ _ _ h => h) (pa_cons (pv 1) (pa_cons (pv 2) pa_nil))))))
  pss_nil)
  (pss_cons (ps_if (pt_cmpR op_eq (pv 0) pe_int (nomark _)) (pss_one (ps_ret (pe_ifExp (pt_val (pv 3)) (pe_callKO (ok_without_list T) (hr.mono (by decide)) rfl T.m_without_list T.F_without_list.kp (kb_without_list_listed_book T) (passes_call (takes_of rfl rfl rfl rfl) fun _ _ _ _ h => h) (pk_cons (pv 2) (pk_cons (pv 1) pk_nil))) (pe_call (ok_without_list T) (hr.mono (by decide)) rfl T.m_without_list T.F_without_list.kp (b_without_list T) .nil (passes_call (takes_of rfl rfl rfl rfl) fun _ _ _ _ h => h) (pa_cons (pv 1) (pa_cons (pv 2) pa_nil))))))
  pss_nil)
  (pss_cons (ps_if (pt_cmpR op_eq (pv 0) pe_int (nomark _)) (pss_one (ps_ret (pe_ifExp (pt_val (pv 3)) (pe_callKO (ok_beside T) (hr.mono (by decide)) rfl T.m_beside T.F_beside.kp (kb_beside_other_book T) (passes_call (takes_of rfl rfl rfl rfl) fun _ _ _ _ h => h) (pk_cons (pv 2) (pk_cons (pv 1) pk_nil))) (pe_call (ok_beside T) (hr.mono (by decide)) rfl T.m_beside T.F_beside.kp (b_beside T) .nil (passes_call (takes_of rfl rfl rfl rfl) fun _ _ _ _ h => h) (pa_cons (pv 1) (pa_cons (pv 2) pa_nil))))))
  pss_nil)
  (pss_cons (ps_if (pt_cmpR op_eq (pv 0) pe_int (nomark _)) (pss_one (ps_ret (pe_ifExp (pt_val (pv 3)) (pe_callKO (ok_rebased T) (hr.mono (by decide)) rfl T.m_rebased T.F_rebased.kp (kb_rebased_line_book T) (passes_call (takes_of rfl rfl rfl rfl) fun _ _ _ _ h => h) (pk_cons (pv 2) (pk_cons (pv 1) pk_nil))) (pe_call (ok_rebased T) (hr.mono (by decide)) rfl T.m_rebased T.F_rebased.kp (b_rebased T) .nil (passes_call (takes_of rfl rfl rfl rfl) fun _ _ _ _ h => h) (pa_cons (pv 1) (pa_cons (pv 2) pa_nil))))))
  pss_nil)
  (pss_cons (ps_if (pt_cmpR op_eq (pv 0) pe_int (nomark _)) (pss_one (ps_ret (pe_ifExp (pt_val (pv 3)) (pe_callKO (ok_mirrored T) (hr.mono (by decide)) rfl T.m_mirrored T.F_mirrored.kp (kb_mirrored_book T) pass0 (pk_cons (pv 1) pk_nil)) (pe_call (ok_mirrored T) (hr.mono (by decide)) rfl T.m_mirrored T.F_mirrored.kp (b_mirrored T) .nil pass0 (pa_cons (pv 1) pa_nil)))))
  pss_nil)
  (pss_cons (ps_if (pt_cmpR op_eq (pv 0) pe_int (nomark _)) (pss_one (ps_ret (pe_ifExp (pt_val (pv 3)) (pe_callKO (ok_near_of T) (hr.mono (by decide)) rfl T.m_near_of T.F_near_of.kp (kb_near_of_here_book T) (passes_call (takes_of rfl rfl rfl rfl) fun _ _ _ _ h => h) (pk_cons (pv 2) (pk_cons (pv 1) pk_nil))) (pe_call (ok_near_of T) (hr.mono (by decide)) rfl T.m_near_of T.F_near_of.kp (b_near_of T) .nil (passes_call (takes_of rfl rfl rfl rfl) fun _ _ _ _ h => h) (pa_cons (pv 1) (pa_cons (pv 2) pa_nil))))))
  pss_nil)
  (pss_cons (ps_if (pt_cmpR op_eq (pv 0) pe_int (nomark _)) (pss_one (ps_ret (pe_ifExp (pt_val (pv 3)) (pe_callKO (ok_between_of T) (hr.mono (by decide)) rfl T.m_between_of T.F_between_of.kp (kb_between_of_tie_book T) (passes_call (takes_of rfl rfl rfl rfl) fun _ _ _ _ h => h) (pk_cons (pv 2) (pk_cons (pv 1) pk_nil))) (pe_call (ok_between_of T) (hr.mono (by decide)) rfl T.m_between_of T.F_between_of.kp (b_between_of T) .nil (passes_call (takes_of rfl rfl rfl rfl) fun _ _ _ _ h => h) (pa_cons (pv 1) (pa_cons (pv 2) pa_nil))))))
  pss_nil)
  (pss_cons (ps_if (pt_val (pv 3)) (pss_one (ps_ret (pe_callKO (ok_is_tied T) (hr.mono (by decide)) rfl T.m_is_tied T.F_is_tied.kp (kb_is_tied_there_here_book T) (passes_call (takes_of rfl rfl rfl rfl) fun _ _ _ _ h => h) (pk_cons (pe_ix (ixT K) (pv 2) pe_int (fun _ _ => rfl)) (pk_cons (pe_ix (ixT K) (pv 2) pe_int (fun _ _ => rfl)) (pk_cons (pv 1) pk_nil))))))
  pss_nil)
  (pss_one (ps_ret (pe_call (ok_is_tied T) (hr.mono (by decide)) rfl T.m_is_tied T.F_is_tied.kp (b_is_tied T) .nil (passes_call (takes_of rfl rfl rfl rfl) fun _ _ _ _ h => h) (pa_cons (pv 1) (pa_cons (pe_ix (ixT K) (pv 2) pe_int (fun _ _ => rfl)) (pa_cons (pe_ix (ixT K) (pv 2) pe_int (fun _ _ => rfl)) pa_nil))))))))))))))), ?_⟩
    cases h with
    | kept h =>
      cases nm with
      | true => exact ⟨_, rfl, rfl, _, rfl, iteT ⟨_, rfl, _, rfl, iteT ⟨_, rfl, _, rfl, h⟩⟩⟩
      | false => exact ⟨_, rfl, rfl, _, rfl, iteT ⟨_, rfl, _, rfl, iteF ⟨_, rfl, _, rfl, h⟩⟩⟩
    | more h =>
      cases nm with
      | true => exact ⟨_, rfl, rfl, _, rfl, iteF ⟨_, rfl, rfl, _, rfl, iteT ⟨_, rfl, _, rfl, iteT ⟨_, rfl, _, rfl, h⟩⟩⟩⟩
      | false => exact ⟨_, rfl, rfl, _, rfl, iteF ⟨_, rfl, rfl, _, rfl, iteT ⟨_, rfl, _, rfl, iteF ⟨_, rfl, _, rfl, h⟩⟩⟩⟩
    | less h =>
      cases nm with
      | true => exact ⟨_, rfl, rfl, _, rfl, iteF ⟨_, rfl, rfl, _, rfl, iteF ⟨_, rfl, rfl, _, rfl, iteT ⟨_, rfl, _, rfl, iteT ⟨_, rfl, _, rfl, h⟩⟩⟩⟩⟩
      | false => exact ⟨_, rfl, rfl, _, rfl, iteF ⟨_, rfl, rfl, _, rfl, iteF ⟨_, rfl, rfl, _, rfl, iteT ⟨_, rfl, _, rfl, iteF ⟨_, rfl, _, rfl, h⟩⟩⟩⟩⟩
    | beside h =>
      cases nm with
      | true => exact ⟨_, rfl, rfl, _, rfl, iteF ⟨_, rfl, rfl, _, rfl, iteF ⟨_, rfl, rfl, _, rfl, iteF ⟨_, rfl, rfl, _, rfl, iteT ⟨_, rfl, _, rfl, iteT ⟨_, rfl, _, rfl, h⟩⟩⟩⟩⟩⟩
      | false => exact ⟨_, rfl, rfl, _, rfl, iteF ⟨_, rfl, rfl, _, rfl, iteF ⟨_, rfl, rfl, _, rfl, iteF ⟨_, rfl, rfl, _, rfl, iteT ⟨_, rfl, _, rfl, iteF ⟨_, rfl, _, rfl, h⟩⟩⟩⟩⟩⟩
    | line h =>
      cases nm with
      | true => exact ⟨_, rfl, rfl, _, rfl, iteF ⟨_, rfl, rfl, _, rfl, iteF ⟨_, rfl, rfl, _, rfl, iteF ⟨_, rfl, rfl, _, rfl, iteF ⟨_, rfl, rfl, _, rfl, iteT ⟨_, rfl, _, rfl, iteT ⟨_, rfl, _, rfl, h⟩⟩⟩⟩⟩⟩⟩
      | false => exact ⟨_, rfl, rfl, _, rfl, iteF ⟨_, rfl, rfl, _, rfl, iteF ⟨_, rfl, rfl, _, rfl, iteF ⟨_, rfl, rfl, _, rfl, iteF ⟨_, rfl, rfl, _, rfl, iteT ⟨_, rfl, _, rfl, iteF ⟨_, rfl, _, rfl, h⟩⟩⟩⟩⟩⟩⟩
    | mirror h =>
      cases nm with
      | true => exact ⟨_, rfl, rfl, _, rfl, iteF ⟨_, rfl, rfl, _, rfl, iteF ⟨_, rfl, rfl, _, rfl, iteF ⟨_, rfl, rfl, _, rfl, iteF ⟨_, rfl, rfl, _, rfl, iteF ⟨_, rfl, rfl, _, rfl, iteT ⟨_, rfl, _, rfl, iteT ⟨_, rfl, h⟩⟩⟩⟩⟩⟩⟩⟩
      | false => exact ⟨_, rfl, rfl, _, rfl, iteF ⟨_, rfl, rfl, _, rfl, iteF ⟨_, rfl, rfl, _, rfl, iteF ⟨_, rfl, rfl, _, rfl, iteF ⟨_, rfl, rfl, _, rfl, iteF ⟨_, rfl, rfl, _, rfl, iteT ⟨_, rfl, _, rfl, iteF ⟨_, rfl, h⟩⟩⟩⟩⟩⟩⟩⟩
    | near h =>
      cases nm with
      | true => exact ⟨_, rfl, rfl, _, rfl, iteF ⟨_, rfl, rfl, _, rfl, iteF ⟨_, rfl, rfl, _, rfl, iteF ⟨_, rfl, rfl, _, rfl, iteF ⟨_, rfl, rfl, _, rfl, iteF ⟨_, rfl, rfl, _, rfl, iteF ⟨_, rfl, rfl, _, rfl, iteT ⟨_, rfl, _, rfl, iteT ⟨_, rfl, _, rfl, h⟩⟩⟩⟩⟩⟩⟩⟩⟩
      | false => exact ⟨_, rfl, rfl, _, rfl, iteF ⟨_, rfl, rfl, _, rfl, iteF ⟨_, rfl, rfl, _, rfl, iteF ⟨_, rfl, rfl, _, rfl, iteF ⟨_, rfl, rfl, _, rfl, iteF ⟨_, rfl, rfl, _, rfl, iteF ⟨_, rfl, rfl, _, rfl, iteT ⟨_, rfl, _, rfl, iteF ⟨_, rfl, _, rfl, h⟩⟩⟩⟩⟩⟩⟩⟩⟩
    | between h =>
      cases nm with
      | true => exact ⟨_, rfl, rfl, _, rfl, iteF ⟨_, rfl, rfl, _, rfl, iteF ⟨_, rfl, rfl, _, rfl, iteF ⟨_, rfl, rfl, _, rfl, iteF ⟨_, rfl, rfl, _, rfl, iteF ⟨_, rfl, rfl, _, rfl, iteF ⟨_, rfl, rfl, _, rfl, iteF ⟨_, rfl, rfl, _, rfl, iteT ⟨_, rfl, _, rfl, iteT ⟨_, rfl, _, rfl, h⟩⟩⟩⟩⟩⟩⟩⟩⟩⟩
      | false => exact ⟨_, rfl, rfl, _, rfl, iteF ⟨_, rfl, rfl, _, rfl, iteF ⟨_, rfl, rfl, _, rfl, iteF ⟨_, rfl, rfl, _, rfl, iteF ⟨_, rfl, rfl, _, rfl, iteF ⟨_, rfl, rfl, _, rfl, iteF ⟨_, rfl, rfl, _, rfl, iteF ⟨_, rfl, rfl, _, rfl, iteT ⟨_, rfl, _, rfl, iteF ⟨_, rfl, _, rfl, h⟩⟩⟩⟩⟩⟩⟩⟩⟩⟩
    | tied sa h =>
      refine ⟨_, rfl, rfl, _, rfl, iteF ⟨_, rfl, rfl, _, rfl, iteF ⟨_, rfl, rfl, _, rfl, iteF ⟨_, rfl, rfl, _, rfl, iteF ⟨_, rfl, rfl, _, rfl, iteF ⟨_, rfl, rfl, _, rfl, iteF ⟨_, rfl, rfl, _, rfl, iteF ⟨_, rfl, rfl, _, rfl, iteF ?_⟩⟩⟩⟩⟩⟩⟩⟩
      cases nm with
      | true => exact ⟨_, rfl, _, rfl, iteT ⟨_, rfl, _, _, _, _, rfl, rfl, sa, rfl, _, rfl, _, _, _, _, rfl, rfl, sa, rfl, _, rfl, h⟩⟩
      | false => exact ⟨_, rfl, _, rfl, iteF ⟨_, rfl, _, rfl, _, _, _, _, rfl, rfl, sa, rfl, _, rfl, _, _, _, _, rfl, rfl, sa, rfl, h⟩⟩
end
end LK
namespace LK
open PySem PySem.Spec PyProof.Rows L2 StX
theorem findIdx_first {α : Type} {p : α → Bool} : ∀ {l : List α} {i : Nat} {x : α}, l[i]? = some x → p x = true → (∀ (j : Nat) (y : α), j < i → l[j]? = some y → p y = false) → l.findIdx? p = some i
  | [], i, x, h, _, _ => by simp at h
  | a :: l, 0, x, h, hp, _ => by
    have e : a = x := by simpa using h
    subst e
    rw [List.findIdx?_cons, hp]
    rfl
  | a :: l, i + 1, x, h, hp, hl => by
    have ih := findIdx_first (l := l) (i := i) (x := x) (by simpa using h) hp fun j y hj hy => hl (j + 1) y (by omega) (by simpa using hy)
    rw [List.findIdx?_cons, hl 0 a (by omega) rfl, ih]
    rfl
theorem findIdx_none {α : Type} {p : α → Bool} {l : List α} (h : ∀ (j : Nat) (y : α), l[j]? = some y → p y = false) : l.findIdx? p = none := by
  rw [List.findIdx?_eq_none_iff]
  intro x hx
  obtain ⟨i, hi⟩ := List.getElem?_of_mem hx
  exact h i x hi
section
variable {P : Program} {w : World} {K : PySem.W.Frag} {mg : Str → Option Value} {base : Heap} {ad : Nat → Addr} {fd : Nat → FuncData}
theorem body_book_of (T : Txt K mg ad fd) (cdv : Value) (A : Around) (outer : List Env) (s : Shared) (H : Hp) (vs : List V) (Q : VK) (E : XK) (hr : Room 7 (A.deeper (envOfC "book_of" (defScope s_book_of) s.heap.objs.size (ad 41) cdv))) (h : spBookB K (ad 21) vs H Q E) :
    ∃ t, PSs (cxOf (L2.CX P w) P w K mg base ["size", "lists", "k", "things"] "book_of" (defScope s_book_of) (ad 41) cdv A outer s H E) (defBody s_book_of) t ∧ t { nx := fun _ H' => Q .non H', rt := Q } (start ["size", "lists", "k", "things"] vs) H := by
  obtain ⟨u, d, p, xs, ls, rfl, hu, hp, hz, hr2, k⟩ := h
  refine ⟨_, (pss_cons (ps_expr (pe_call (ok_need T) (hr.mono (by decide)) rfl T.m_need T.F_need.kp (b_need T) .nil (passes_call (takes_of rfl rfl rfl rfl) fun _ _ _ _ h => h) (pa_cons (pe_and (pe_call (ok_is_integer T) (hr.mono (by decide)) rfl T.m_is_integer T.F_is_integer.kp (b_is_integer T) .nil pass0 (pa_cons (pv 0) pa_nil)) (pe_one (pe_cmpR op_ge (pv 0) pe_int (nomark _)))) (pa_cons pe_str pa_nil))))
  (pss_cons (ps_for (passes_of rfl) rfl (pi_enumT (K := K) rfl T.g_enumerate (pa_cons (pv 1) pa_nil)) (pg_tup rfl (pgs_cons (pg_name (i := 2) (x := "k") sc_book_of.nd rfl (Or.inl rfl)) (pgs_cons (pg_name (i := 3) (x := "things") sc_book_of.nd rfl (Or.inl rfl)) pgs_nil)))
  (pss_one (ps_if (PW.pt (pw_or (pt_not (pt_val (pe_call (ok_are_unlike_below T) (hr.mono (by decide)) rfl T.m_are_unlike_below T.F_are_unlike_below.kp (b_are_unlike_below T) .nil pass0 (pa_cons (pv 0) (pa_cons (pv 3) pa_nil))))) (pw_or1 (pt_cmpR op_lt (pe_callB (lenS K) (by rfl) T.g_len (by decide +kernel) (pa_cons (pv 3) pa_nil)) pe_int (nomark _))))) (pss_one (ps_raise rfl (takes_of rfl rfl rfl rfl) (pmk_oex T.ox_NotUsable T.i_NotUsable T.t_NotUsable (ok_init_NotUsable T) (hr.mono (by decide)) (b_init_NotUsable T) .nil pass0 rfl T.m_NotUsable (pa_cons pe_str (pa_cons (pv 2) pa_nil)))))
  pss_nil)))
  (pss_one (ps_ret (pe_tup (pa_cons (pv 0) (pa_cons (pe_callTy (tupOf K) (by rfl) T.g_tuple (by decide +kernel) (pa_cons (pe_lc (own := [("things", 3)]) (g := gName 3) rfl sc_book_of.nd (piT K (pv 1)) (blkOk_by (N := ["size", "lists", "k", "things"]) (sc := defScope s_book_of) (by decide +kernel)) (fun _ _ _ _ _ => (pg_name (i := 3) (x := "things") sc_book_of.nd rfl (Or.inl rfl))) (fun _ _ _ _ _ => pts_nil) (fun _ _ _ _ _ => (pe_callTy (tupOf K) (by rfl) T.g_tuple (by decide +kernel) (pa_cons (pe_callB (srtT K) (by rfl) T.g_sorted (by decide +kernel) (pa_cons (pv 3) pa_nil)) pa_nil)))) pa_nil)) pa_nil))))))), ?_⟩
  refine ⟨_, rfl, u, d, rfl, hu, _, rfl, ?_⟩
  cases hu with
  | int n =>
    refine iteT ⟨_, rfl, _, _, rfl, rfl, _, _, rfl, (fun hc => ?_), fun hc => ?_⟩
    rotate_left
    · have hc : ¬ (1 ≤ n) := by simpa using hc
      have ek : bookOfX (.int n) ls = .error ("size", -1) := by
        unfold bookOfX
        rw [if_neg]
        simp [isInteger, toInt, hc]
      rw [ek] at k
      exact k
    have hc : 1 ≤ n := by simpa using hc
    have ek : bookOfX (.int n) ls = (match ls.findIdx? fun l => !goodList n l with | some k => .error ("lists", (k : Nat)) | none => .ok (bookD n (ls.map fun l => srt (dInts l)))) := by
      unfold bookOfX
      rw [if_pos (by simp [isInteger, toInt, hc])]
      rfl
    rw [ek] at k
    have lx := hr2.length
    refine ⟨_, rfl, p, _, rfl, hp, for_enumT (K := K) (a := p) (xs := xs) (fun i σ H1 => ∃ v2 v3, σ = [some (.int n), some (.ref p), v2, v3] ∧ Same H H1 ∧ ∀ j y, j < i → ls[j]? = some y → goodList n y = true)
      ⟨none, none, rfl, Same.refl _, fun j y hj => absurd hj (Nat.not_lt_zero _)⟩ (fun i σ H1 _ ⟨_, _, _, s1, _⟩ => seqT s1 hp) (fun i x σ H1 TT hi ⟨v2, v3, e1, s1, hg⟩ hT => ?_) (fun σ H1 ⟨v2, v3, e1, s1, hg⟩ => ?_)⟩
    · subst e1
      obtain ⟨dl, hd, rd⟩ := hr2.get hi
      have sT : Same H (upd H1 TT (.tup [.int (i : Nat), x])) := s1.trans (same_upd hT)
      refine ⟨TT, _, rfl, SqT.of upd_same, rfl, _, _, rfl, _, _, rfl, rfl, ?_⟩
      refine ⟨_, rfl, _, rfl, n, x, dl, rfl, rd.same sT, fun H2 s2 => ⟨_, rfl, ?_⟩⟩
      have s02 := sT.trans s2
      have bad : goodList n dl = false → Rz (ad 21) E H2 "lists" (i : Nat) := fun hb => by
        rw [findIdx_first (p := fun l => !goodList n l) hd (by simp [hb]) fun j y hj hy => by simp [hg j y hj hy]] at k
        exact k.same s02
      cases e : areUnlike n dl with
      | false =>
        refine iteT (iteT ?_)
        exact raise2 (bad (by simp [goodList, e])) fun Q hq => ⟨_, rfl, hq⟩
      | true =>
        have e2 : areBelow n dl = true := by
          unfold areUnlike at e
          rw [Bool.and_eq_true] at e
          exact e.1
        have ed := areBelow_tup e2
        rw [ed] at rd
        obtain ⟨a, rfl, ta⟩ := rd.tupI
        have ta2 := ta.same s02
        refine iteF ⟨_, rfl, _, _, rfl, .inr ta2.1, _, _, rfl, rfl, _, rfl, ?_⟩
        rw [List.length_map]
        by_cases c : (dInts dl).length < 2
        · rw [decide_eq_true (show (((dInts dl).length : Nat) : Int) < 2 by omega)]
          refine iteT ?_
          exact raise2 (bad (by simp [goodList, e]; omega)) fun Q hq => ⟨_, rfl, hq⟩
        · rw [decide_eq_false (show ¬ (((dInts dl).length : Nat) : Int) < 2 by omega)]
          refine iteF ⟨_, _, rfl, s02, fun j y hj hy => ?_⟩
          by_cases ej : j = i
          · subst ej
            rw [hd] at hy
            cases hy
            simp [goodList, e]
            omega
          · exact hg j y (by omega) hy
    · subst e1
      rw [findIdx_none (p := fun l => !goodList n l) fun j y hy => by simp [hg j y (by have := (List.getElem?_eq_some_iff.mp hy).1; omega) hy]] at k
      refine ⟨_, rfl, _, rfl, p, rfl, ⟨_, seqT s1 hp⟩, fun D hD => ?_⟩
      refine lcT (K := K) (xs := xs) (fun _ => true) (fun j => dTup (srt (dInts (ls.getD j .none)))) hD (seqT s1 hp) hz (fun j _ _ => noL_dTup _) (fun i x H2 hi s2 Q1 Q2 k1 k2 => ?_) (fun ys H2 s2 hy r2 => ?_)
      · obtain ⟨dl, hd, rd⟩ := hr2.get hi
        have hgi := hg i dl (by have := (List.getElem?_eq_some_iff.mp hi).1; omega) hd
        have e2 : areBelow n dl = true := by
          unfold goodList areUnlike at hgi
          simp only [Bool.and_eq_true] at hgi
          exact hgi.1.1
        have ed : ls.getD i .none = dl := by rw [List.getD_eq_getElem?_getD, hd]; rfl
        rw [ed] at k1
        have ed2 := areBelow_tup e2
        rw [ed2] at rd
        obtain ⟨a, rfl, ta⟩ := rd.tupI
        have ta2 := ta.same (s1.trans s2)
        refine ⟨rfl, _, rfl, a, _, rfl, ta2.1, fun ns' q pm pw hq => ?_⟩
        have en := srt_eq pm pw
        subst en
        dsimp only [tNil]
        refine tupL_use (SqL.of upd_same) fun q2 H3 s3 hq2 => ?_
        exact k1 rfl _ _ ((same_upd hq).trans s3) (TupI.rp ⟨hq2, by rw [srt_length]; exact ta.2⟩)
      · rw [filter_true] at r2
        have ez : (List.range xs.length).map (fun j => dTup (srt (dInts (ls.getD j .none)))) = (ls.map fun l => srt (dInts l)).map dTup := by
          rw [lx, List.map_map]
          exact map_range (fun l => dTup (srt (dInts l))) .none ls
        rw [ez] at r2
        have ly : ys.length ≤ 1000 := by rw [r2.length, List.length_map, List.length_map]; omega
        dsimp only [tNil]
        refine tupL_use (SqL.of hy) fun q H3 s3 hq => ⟨(by show 2 ≤ sizeLine; decide), fun z hz3 => ?_⟩
        exact k _ _ (((s1.trans s2).trans s3).trans (same_upd hz3)) (rp_bookNew hq ly (r2.same s3) hz3)
  | _ =>
    refine iteF ⟨false, _, rfl, (fun z => by cases z), fun _ => ?_⟩
    have ek : ∀ d, isInteger d = false → bookOfX d ls = .error ("size", -1) := fun d e => by simp [bookOfX, e]
    rw [ek _ rfl] at k
    exact k
theorem ok_book_of (T : Txt K mg ad fd) : FnR P w K mg base (L2.CX P w) 8 (ad 41) (spBookR K (ad 21)) := by
  obtain ⟨oc, od, kV, doc, pm, an, cdv, ct, osl, e, lk, hcd⟩ := T.F_book_of.ex
  rw [e] at lk
  refine FnR.imp (fn_star (ps := ["size"]) (pv := "lists") lk hcd sc_book_of cxUp (fun us rest hl => match us, rest, hl with | [a], [], _ => rfl | [a], r :: rs, _ => rfl) fun A outer s H vs Q E hr h => body_book_of T cdv A outer s H vs Q E hr h) fun vs H Q E h => ?_
  obtain ⟨u, us, d, ls, rfl, hu, hz, hr, k⟩ := h
  refine ⟨[u], us, rfl, rfl, Nat.le_trans hz (by decide), fun p hp => ⟨u, d, p, us, ls, rfl, hu.same (same_upd hp), SqT.of upd_same, hz, hr.same (same_upd hp), ?_⟩⟩
  cases hx : bookOfX d ls with
  | ok b =>
    rw [hx] at k
    exact fun v H' s r => k v H' ((same_upd hp).trans s) r
  | error e =>
    rw [hx] at k
    exact Rz.same k (same_upd hp)
theorem ok_book_ofK (T : Txt K mg ad fd) : FnK1 P w K mg base (L2.CX P w) 8 (ad 41) "size" (spBookR K (ad 21)) := by
  obtain ⟨oc, od, kV, doc, pm, an, cdv, ct, osl, e, lk, hcd⟩ := T.F_book_of.ex
  rw [e] at lk
  have F := fn_starK (P := P) (w := w) (mg := mg) (base := base) (p1 := "size") (pv := "lists") lk hcd sc_book_of cxUp (fun u => rfl) fun A outer s H vs Q E hr h => body_book_of T cdv A outer s H vs Q E hr h
  intro A outer s H u v Q E hr e0 r h
  refine F A outer s H u v Q E hr e0 r ⟨v, rfl, fun p hp => ?_⟩
  obtain ⟨u2, us, d, ls, ev, hu, hz, hr, k⟩ := h
  cases ev
  refine ⟨v, d, p, [], ls, rfl, hu.same (same_upd hp), SqT.of upd_same, hz, hr.same (same_upd hp), ?_⟩
  cases hx : bookOfX d ls with
  | ok b =>
    rw [hx] at k
    exact fun v H' s r => k v H' ((same_upd hp).trans s) r
  | error e =>
    rw [hx] at k
    exact Rz.same k (same_upd hp)
end
end LK
namespace LK
open PySem PySem.Spec PyProof.Rows L2
theorem goodList_first {n : Int} {r : List Int} (h : FirstRow n r) : goodList n (dTup r) = true := by
  unfold goodList areUnlike
  rw [dInts_tup]
  have h1 : areBelow n (dTup r) = true := by
    show (r.map PyData.int).all (isBelow n) = true
    rw [List.all_map]
    exact List.all_eq_true.mpr fun x hx => by simpa [isBelow] using h.2.2.2 x hx
  rw [h1, decide_eq_true h.1, decide_eq_true h.2.1]
  rfl
theorem bookOf_first {n : Int} {rows : List (List Int)} (hn : 1 ≤ n) (h : ∀ r ∈ rows, FirstRow n r) : bookOfX (.int n) (rows.map dTup) = .ok (bookD n (rows.map srt)) := by
  have e : ((rows.map dTup).findIdx? fun l => !goodList (toInt (.int n)) l) = none := findIdx_none fun j y hy => by
    obtain ⟨r, hr, rfl⟩ := List.mem_map.mp (List.mem_of_getElem? hy)
    show (!goodList n (dTup r)) = false
    rw [goodList_first (h r hr)]
    rfl
  unfold bookOfX
  rw [if_pos (by simp [isInteger, toInt, hn])]
  rw [e]
  show Except.ok (bookD n ((rows.map dTup).map fun l => srt (dInts l))) = _
  rw [List.map_map]
  congr 2
  refine List.map_congr_left fun r _ => ?_
  show srt (dInts (dTup r)) = srt r
  rw [dInts_tup]
theorem len_eqV (ys : List V) (k : Int) : decide (V.int (ys.length : Nat) = V.int k) = decide ((ys.length : Int) = k) := by
  by_cases c : (ys.length : Int) = k
  · rw [decide_eq_true c, decide_eq_true (by rw [c])]
  · rw [decide_eq_false c, decide_eq_false fun z => c (by injection z)]
section
variable {P : Program} {w : World} {K : PySem.W.Frag} {mg : Str → Option Value} {base : Heap} {ad : Nat → Addr} {fd : Nat → FuncData}
theorem ok__law_made (T : Txt K mg ad fd) : FnOk P w K mg base CX0 9 (ad 54) (fd 54) ["_law_size", "_law_rows"]
    (fun vs H Q _ => ∃ (u : V) (n : Int) (rows : List (List Int)), vs = [.int n, u] ∧ Rp K H u (.list (rows.map dLst)) ∧ rows.length ≤ 5 ∧ (∀ r ∈ rows, FirstRow n r) ∧ 1 ≤ n ∧ ∀ z H', Same H H' → Rp K H' z (bookD n (rows.map srt)) → Q z H') := by
  refine T.F__law_made.ok sc__law_made (fun vs H Q E h => ?_) (fun cdv A outer s H vs Q E hr h => ?_)
  · obtain ⟨u, n, rows, rfl, _⟩ := h
    rfl
  · obtain ⟨u, n, rows, rfl, hu, hl, hrows, hn, k⟩ := h
    obtain ⟨L, xs, rfl, hL, hz, hr2⟩ := hu.lstA
    have lx : xs.length = rows.length := by rw [hr2.length, List.length_map]
    refine ⟨_, (pss_cons (ps_setLc (i := 2) (own := [("_law_row", 3)]) (g := gName 3) rfl sc__law_made.nd rfl rfl (sw_true rfl rfl rfl (by decide +kernel)) (piL K (pv 1)) (blkOk_by (N := ["_law_size", "_law_rows", "_law_told", "_law_row"]) (sc := defScope s__law_made) (by decide +kernel)) (fun _ _ _ _ _ => (pg_name (i := 3) (x := "_law_row") sc__law_made.nd rfl (Or.inl rfl))) (fun _ _ _ _ _ => pts_nil) (fun _ _ _ _ _ => (pe_callTy (tupOf K) (by rfl) T.g_tuple (by decide +kernel) (pa_cons (pv 3) pa_nil))))
  (pss_cons (ps_if (pt_cmpR op_eq (pe_callB (lenS K) (by rfl) T.g_len (by decide +kernel) (pa_cons (pv 2) pa_nil)) pe_int (nomark _)) (pss_one (ps_ret (pe_callK1 (ok_book_ofK T) (hr.mono (by decide)) rfl T.m_book_of T.F_book_of.kp passL (pk_cons (pv 0) pk_nil))))
  pss_nil)
  (pss_cons (ps_if (pt_cmpR op_eq (pe_callB (lenS K) (by rfl) T.g_len (by decide +kernel) (pa_cons (pv 2) pa_nil)) pe_int (nomark _)) (pss_one (ps_ret (pe_callRR (ok_book_of T) (hr.mono (by decide)) rfl T.m_book_of T.F_book_of.kp passL (pa_cons (pv 0) (pa_cons (pe_ix (ixL K) (pv 2) pe_int (fun _ _ => rfl)) pa_nil)))))
  pss_nil)
  (pss_cons (ps_if (pt_cmpR op_eq (pe_callB (lenS K) (by rfl) T.g_len (by decide +kernel) (pa_cons (pv 2) pa_nil)) pe_int (nomark _)) (pss_one (ps_ret (pe_callRR (ok_book_of T) (hr.mono (by decide)) rfl T.m_book_of T.F_book_of.kp passL (pa_cons (pv 0) (pa_cons (pe_ix (ixL K) (pv 2) pe_int (fun _ _ => rfl)) (pa_cons (pe_ix (ixL K) (pv 2) pe_int (fun _ _ => rfl)) pa_nil))))))
  pss_nil)
  (pss_cons (ps_if (pt_cmpR op_eq (pe_callB (lenS K) (by rfl) T.g_len (by decide +kernel) (pa_cons (pv 2) pa_nil)) pe_int (nomark _)) (pss_one (ps_ret (pe_callRR (ok_book_of T) (hr.mono (by decide)) rfl T.m_book_of T.F_book_of.kp passL (pa_cons (pv 0) (pa_cons (pe_ix (ixL K) (pv 2) pe_int (fun _ _ => rfl)) (pa_cons (pe_ix (ixL K) (pv 2) pe_int (fun _ _ => rfl)) (pa_cons (pe_ix (ixL K) (pv 2) pe_int (fun _ _ => rfl)) pa_nil)))))))
  pss_nil)
  (pss_cons (ps_if (pt_cmpR op_eq (pe_callB (lenS K) (by rfl) T.g_len (by decide +kernel) (pa_cons (pv 2) pa_nil)) pe_int (nomark _)) (pss_one (ps_ret (pe_callRR (ok_book_of T) (hr.mono (by decide)) rfl T.m_book_of T.F_book_of.kp passL (pa_cons (pv 0) (pa_cons (pe_ix (ixL K) (pv 2) pe_int (fun _ _ => rfl)) (pa_cons (pe_ix (ixL K) (pv 2) pe_int (fun _ _ => rfl)) (pa_cons (pe_ix (ixL K) (pv 2) pe_int (fun _ _ => rfl)) (pa_cons (pe_ix (ixL K) (pv 2) pe_int (fun _ _ => rfl)) pa_nil))))))))
  pss_nil)
  (pss_one (ps_ret (pe_callRR (ok_book_of T) (hr.mono (by decide)) rfl T.m_book_of T.F_book_of.kp passL (pa_cons (pv 0) (pa_cons (pe_ix (ixL K) (pv 2) pe_int (fun _ _ => rfl)) (pa_cons (pe_ix (ixL K) (pv 2) pe_int (fun _ _ => rfl)) (pa_cons (pe_ix (ixL K) (pv 2) pe_int (fun _ _ => rfl)) (pa_cons (pe_ix (ixL K) (pv 2) pe_int (fun _ _ => rfl)) (pa_cons (pe_ix (ixL K) (pv 2) pe_int (fun _ _ => rfl)) pa_nil))))))))))))))), ?_⟩
    refine ⟨_, rfl, L, rfl, ⟨_, hL⟩, fun D hD => ?_⟩
    refine lcL (K := K) (xs := xs) (fun _ => true) (fun j => dTup (rows.getD j [])) hD hL hz (fun j _ _ => noL_dTup _) (fun i v H2 hi s2 Q1 Q2 k1 k2 => ?_) (fun ys H2 s2 hy r2 => ?_)
    · obtain ⟨ns, a2, hn2, rfl, t⟩ := hr2.rowL hi
      have t := t.same s2
      have en : rows.getD i [] = ns := by rw [List.getD_eq_getElem?_getD, hn2]; rfl
      rw [en] at k1
      refine ⟨rfl, _, rfl, ?_⟩
      dsimp only [tNil]
      exact tupL_use t.1 fun p H4 s4 hp => k1 rfl _ _ s4 (TupI.rp ⟨hp, t.2⟩)
    · rw [filter_true] at r2
      have ez : (List.range xs.length).map (fun j => dTup (rows.getD j [])) = rows.map dTup := by
        rw [lx]
        exact map_range dTup [] rows
      rw [ez] at r2
      have key := bookOf_first hn hrows
      have fin : ∀ {E' : XK}, Out K (ad 21) Q E' H2 (bookOfX (.int n) (rows.map dTup)) := fun {E'} => by
        rw [key]
        exact fun z H' s' r => k z H' (s2.trans s') r
      have lys : ys.length = rows.length := by rw [r2.length, List.length_map]
      have at0 : ∀ {i : Nat} {y : V}, ys[i]? = some y → ∀ z : Int, z = (i : Int) → atI ys z = some y := fun h z hz => at_of hz h
      rcases rows with _ | ⟨r1, _ | ⟨r2', _ | ⟨r3, _ | ⟨r4, _ | ⟨r5, _ | ⟨r6, rest⟩⟩⟩⟩⟩⟩
      · have r20 := r2
        cases r2
        exact ⟨_, rfl, D, _, rfl, .inl (SqL.of hy), rfl, _, rfl, iteT ⟨_, rfl, _, rfl, .int n, [], .int n, [], rfl, .int n, (by simp), r20, fin⟩⟩
      · have r20 := r2
        cases r2 with
        | cons q0 r2 =>
          cases r2
          exact ⟨_, rfl, D, _, rfl, .inl (SqL.of hy), rfl, _, rfl, iteF ⟨_, rfl, D, _, rfl, .inl (SqL.of hy), rfl, _, rfl, iteT ⟨_, rfl, _, rfl, D, _, _, _, rfl, rfl, SqL.of hy, rfl, .int n, [_], .int n, [_], rfl, .int n, (by simp), r20, fin⟩⟩⟩
      · have r20 := r2
        cases r2 with
        | cons q0 r2 =>
          cases r2 with
          | cons q1 r2 =>
            cases r2
            exact ⟨_, rfl, D, _, rfl, .inl (SqL.of hy), rfl, _, rfl, iteF ⟨_, rfl, D, _, rfl, .inl (SqL.of hy), rfl, _, rfl, iteF ⟨_, rfl, D, _, rfl, .inl (SqL.of hy), rfl, _, rfl, iteT ⟨_, rfl, _, rfl, D, _, _, _, rfl, rfl, SqL.of hy, rfl, _, rfl, D, _, _, _, rfl, rfl, SqL.of hy, rfl, .int n, [_, _], .int n, [_, _], rfl, .int n, (by simp), r20, fin⟩⟩⟩⟩
      · have r20 := r2
        cases r2 with
        | cons q0 r2 =>
          cases r2 with
          | cons q1 r2 =>
            cases r2 with
            | cons q2 r2 =>
              cases r2
              exact ⟨_, rfl, D, _, rfl, .inl (SqL.of hy), rfl, _, rfl, iteF ⟨_, rfl, D, _, rfl, .inl (SqL.of hy), rfl, _, rfl, iteF ⟨_, rfl, D, _, rfl, .inl (SqL.of hy), rfl, _, rfl, iteF ⟨_, rfl, D, _, rfl, .inl (SqL.of hy), rfl, _, rfl, iteT ⟨_, rfl, _, rfl, D, _, _, _, rfl, rfl, SqL.of hy, rfl, _, rfl, D, _, _, _, rfl, rfl, SqL.of hy, rfl, _, rfl, D, _, _, _, rfl, rfl, SqL.of hy, rfl, .int n, [_, _, _], .int n, [_, _, _], rfl, .int n, (by simp), r20, fin⟩⟩⟩⟩⟩
      · have r20 := r2
        cases r2 with
        | cons q0 r2 =>
          cases r2 with
          | cons q1 r2 =>
            cases r2 with
            | cons q2 r2 =>
              cases r2 with
              | cons q3 r2 =>
                cases r2
                exact ⟨_, rfl, D, _, rfl, .inl (SqL.of hy), rfl, _, rfl, iteF ⟨_, rfl, D, _, rfl, .inl (SqL.of hy), rfl, _, rfl, iteF ⟨_, rfl, D, _, rfl, .inl (SqL.of hy), rfl, _, rfl, iteF ⟨_, rfl, D, _, rfl, .inl (SqL.of hy), rfl, _, rfl, iteF ⟨_, rfl, D, _, rfl, .inl (SqL.of hy), rfl, _, rfl, iteT ⟨_, rfl, _, rfl, D, _, _, _, rfl, rfl, SqL.of hy, rfl, _, rfl, D, _, _, _, rfl, rfl, SqL.of hy, rfl, _, rfl, D, _, _, _, rfl, rfl, SqL.of hy, rfl, _, rfl, D, _, _, _, rfl, rfl, SqL.of hy, rfl, .int n, [_, _, _, _], .int n, [_, _, _, _], rfl, .int n, (by simp), r20, fin⟩⟩⟩⟩⟩⟩
      · have r20 := r2
        cases r2 with
        | cons q0 r2 =>
          cases r2 with
          | cons q1 r2 =>
            cases r2 with
            | cons q2 r2 =>
              cases r2 with
              | cons q3 r2 =>
                cases r2 with
                | cons q4 r2 =>
                  cases r2
                  exact ⟨_, rfl, D, _, rfl, .inl (SqL.of hy), rfl, _, rfl, iteF ⟨_, rfl, D, _, rfl, .inl (SqL.of hy), rfl, _, rfl, iteF ⟨_, rfl, D, _, rfl, .inl (SqL.of hy), rfl, _, rfl, iteF ⟨_, rfl, D, _, rfl, .inl (SqL.of hy), rfl, _, rfl, iteF ⟨_, rfl, D, _, rfl, .inl (SqL.of hy), rfl, _, rfl, iteF ⟨_, rfl, _, rfl, D, _, _, _, rfl, rfl, SqL.of hy, rfl, _, rfl, D, _, _, _, rfl, rfl, SqL.of hy, rfl, _, rfl, D, _, _, _, rfl, rfl, SqL.of hy, rfl, _, rfl, D, _, _, _, rfl, rfl, SqL.of hy, rfl, _, rfl, D, _, _, _, rfl, rfl, SqL.of hy, rfl, .int n, [_, _, _, _, _], .int n, [_, _, _, _, _], rfl, .int n, (by simp), r20, fin⟩⟩⟩⟩⟩⟩
      · exact absurd hl (by simp)
end
end LK
/-! each deed: what is drawn, what is done, what stands behind -/
namespace LK
open PySem PySem.Spec PyProof.Rows L2
theorem renum_len (names : List Int) (rows : List (List Int)) : (renum names rows).length = rows.length := by rw [renum_eq, List.length_map]
structure StepK (K : PySem.W.Frag) (C : Addr) (H : Hp) (S p : Addr) (names : List Int) (rows : List (List Int)) (fresh w : Int) (v : V) (names' : List Int) (rows' : List (List Int)) : Prop where
  do_ : ∀ (H1 : Hp) (vb : V) (Q : VK) (E : XK), Mv S p H H1 → Rp K H1 vb (bookD names.length (renum names rows)) → (∀ u H2, Same H1 H2 → Rp K H2 u (bookD names'.length (renum names' rows')) → Q u H2) → DoSp K C w vb v H1 Q E
  beh : ∀ H1, Mv S p H H1 → BehK K H1 S names rows fresh w v names' rows'
  lab : LabOk names' rows' (fresh + 40)
  len : rows'.length ≤ rows.length + 2
/-- which deeds can be drawn -/
def WOk (names : List Int) (rows : List (List Int)) (w : Int) : Prop := w = 0 ∨ (w = 1 ∧ 2 ≤ names.length) ∨ (w = 2 ∧ 0 < rows.length) ∨ (w = 3 ∧ names.length ≤ 30) ∨ w = 4 ∨ w = 5
theorem DN.mv {S p : Addr} {H H1 : Hp} {v : V} (st : StOk H S p) (h : DN H v) (m : Mv S p H H1) : DN H1 v := fun a e => by
  obtain ⟨o, u, h1, h2⟩ := h a e
  obtain ⟨zs, hz⟩ := st.atS
  have hne : a ≠ S := fun z => by rw [z, hz] at h1; cases h1
  exact ⟨o, u, m.get hne h1, h2⟩
theorem deed_step {K : PySem.W.Frag} {C S p : Addr} {H : Hp} {Q : VK} {names : List Int} {rows : List (List Int)} {B fresh w : Int} (h : LabOk names rows B) (hB : B ≤ fresh) (h0 : 0 ≤ fresh) (hl : rows.length ≤ 400) (hw : WOk names rows w)
    (k : ∀ v names' rows' H', Mv S p H H' → StepK K C H' S p names rows fresh w v names' rows' → Q v H') : DeedK K H S p names.length rows.length Q w := by
  have hl0 := h.l0
  have hl1 := h.l1
  rcases hw with rfl | ⟨rfl, h2⟩ | ⟨rfl, h2⟩ | ⟨rfl, h2⟩ | rfl | rfl
  · refine .lot fun v lot H' m nd pw hin h1 r dn => k v _ _ H' m ⟨fun H1 vb Q1 E1 m1 rb q => ?_, fun H1 m1 => .kept (m1.rp r) hin, (kept_lab h hin nd h1).mono (by omega), ?_⟩
    · refine .kept ⟨vb, v, dTup lot, names.length, renum names rows, rfl, rb, rp_show (m1.rp r), fun _ _ => dn.mv m.ok m1, trivial, ?_⟩
      have e : keptTo names.length (renum names rows) (dTup lot) = .ok (bookD lot.length (keptRows lot (renum names rows))) := by
        unfold keptTo isLot
        have hb : areBelow (names.length : Int) (dTup lot) = true := goodRow_below hin
        rw [dInts_tup, hb, rising_of pw nd, decide_eq_true (show 0 < lot.length by omega)]
        rfl
      rw [e, kept_eq h hin pw]
      have el : ((lot.length : Nat) : Int) = (((labels names lot).length : Nat) : Int) := by rw [labels_len]
      rw [el]
      exact q
    · refine Nat.le_trans (List.length_filter_le _ _) ?_
      rw [List.length_map]
      omega
  · refine .things (by omega) fun v ts H' m fr r => k v _ _ H' m ⟨fun H1 vb Q1 E1 m1 rb q => ?_, fun H1 m1 => .more (m1.rp r) fr.2.2.2, (more_lab h fr).mono (by omega), by rw [List.length_append, List.length_singleton]; omega⟩
    refine .more ⟨vb, v, dTup ts, names.length, renum names rows, rfl, rb, rp_show (m1.rp r), by show (renum names rows).length ≤ 500; rw [renum_len]; omega, ?_⟩
    have e : withList names.length (renum names rows) (dTup ts) = .ok (bookD names.length (renum names rows ++ [srt ts])) := by
      have hg := goodList_first fr
      unfold goodList at hg
      unfold withList
      rw [dInts_tup] at hg ⊢
      rw [hg]
      rfl
    rw [e, more_eq h fr.2.2.2]
    exact q
  · refine .listed (by omega) (by omega) fun i H' i0 i1 m => k (.int i) _ _ H' m ⟨fun H1 vb Q1 E1 m1 rb q => ?_, fun H1 m1 => .less i0 i1, (less_lab h).mono (by omega), ?_⟩
    · refine .less ⟨vb, .int i, .int i, names.length, renum names rows, rfl, rb, .int i, trivial, ?_⟩
      have e : withoutList names.length (renum names rows) (.int i) = .ok (bookD names.length ((renum names rows).take i.toNat ++ (renum names rows).drop (i.toNat + 1))) := by
        have hb : isBelow (renum names rows).length (.int i) = true := decide_eq_true ⟨i0, by rw [renum_eq, List.length_map]; exact i1⟩
        unfold withoutList
        rw [hb]
        rfl
      rw [e, less_eq]
      exact q
    · rw [List.length_append, List.length_take, List.length_drop]
      omega
  · refine .other fun v b H' hb m r => ?_
    obtain ⟨b0, b1, b2, b3, b4⟩ := five_ok b hb
    obtain ⟨n, orows⟩ := b
    simp only at *
    refine k v _ _ H' m ⟨fun H1 vb Q1 E1 m1 rb q => ?_, fun H1 m1 => .beside (m1.rp r) (by omega) (by omega) (by omega), (beside_lab (k := n.toNat) h hB h0 (by omega) b3).mono (by omega), by rw [List.length_append, List.length_map]; omega⟩
    have eb : bRows (bookD n orows) = orows := by
      show (orows.map dTup).map dInts = orows
      rw [List.map_map]
      have : orows.map (dInts ∘ dTup) = orows.map id := List.map_congr_left fun r _ => dInts_tup r
      rw [this, List.map_id]
    refine .beside ⟨vb, v, bookD n orows, names.length, renum names rows, rfl, rb, rp_show (m1.rp r), (by show (renum names rows).length ≤ 500 ∧ (bRows (bookD n orows)).length ≤ 500; rw [renum_len, eb]; omega), ?_⟩
    have e : besideB names.length (renum names rows) (bookD n orows) = .ok (bookD (names.length + n) (renum names rows ++ orows.map fun r => r.map fun x => ((names.length : Nat) : Int) + x)) := by
      unfold besideB
      rw [b4, eb]
      rfl
    rw [e, beside_eq (k := n.toNat) (fresh := fresh) h hB b3]
    have el : ((names.length : Nat) : Int) + n = (((names ++ (rgI n.toNat).map fun x => fresh + x).length : Nat) : Int) := by
      rw [List.length_append, List.length_map, rgI_length]
      omega
    rw [el]
    exact q
  · refine .line (by decide) fun v ln H' pm m r => ?_
    have pm' : ln.Perm (rgI names.length) := by rw [Int.toNat_natCast] at pm; exact pm
    obtain ⟨p1, p2, p3⟩ := perm_mem pm'
    refine k v _ _ H' m ⟨fun H1 vb Q1 E1 m1 rb q => ?_, fun H1 m1 => .line (m1.rp r) p1, (line_lab h pm').mono (by omega), by omega⟩
    refine .line ⟨vb, v, dTup ln, names.length, renum names rows, rfl, rb, rp_show (m1.rp r), h.rin, ?_⟩
    have e : rebasedB names.length (renum names rows) (dTup ln) = .ok (bookD names.length (renum ln (renum names rows))) := by
      unfold rebasedB isLine areUnlike
      have hb : areBelow (names.length : Int) (dTup ln) = true := goodRow_below p1
      rw [dInts_tup, hb, decide_eq_true p2, p3]
      simp
    rw [e, line_eq h pm']
    have el : ((names.length : Nat) : Int) = (((labels names ln).length : Nat) : Int) := by rw [labels_len, p3]
    rw [el]
    exact q
  · refine .line (by decide) fun v ln H' pm m r => k v _ _ H' m ⟨fun H1 vb Q1 E1 m1 rb q => ?_, fun H1 m1 => .mirror, (mirror_lab h).mono (by omega), by omega⟩
    refine .mirror ⟨vb, names.length, renum names rows, rfl, rb, h.rin, by omega, by omega, fun u H2 s2 ru => q u H2 s2 ?_⟩
    unfold mirroredB at ru
    rw [Int.toNat_natCast, mirror_eq h] at ru
    rw [List.length_reverse]
    exact ru
end LK
namespace LK
open PySem PySem.Spec PyProof.Rows L2
mutual
def deepD : PyData → Nat
  | .tuple ds => deepDs ds + 1
  | _ => 0
def deepDs : List PyData → Nat
  | [] => 0
  | d :: ds => max (deepD d) (deepDs ds)
end
theorem deepDs_mem : ∀ {ds : List PyData} {d : PyData}, d ∈ ds → deepD d ≤ deepDs ds
  | [], d, h => by simp at h
  | e :: ds, d, h => by
    unfold deepDs
    rcases List.mem_cons.mp h with rfl | h
    · omega
    · have := deepDs_mem h
      omega
theorem noLs_mem : ∀ {ds : List PyData} {d : PyData}, noLs ds = true → d ∈ ds → noL d = true
  | [], d, _, h => by simp at h
  | e :: ds, d, n, h => by
    unfold noLs at n
    rw [Bool.and_eq_true] at n
    rcases List.mem_cons.mp h with rfl | h
    · exact n.1
    · exact noLs_mem n.2 h
def spSame (K : PySem.W.Frag) (n : Nat) : Sp := fun vs H Q _ => ∃ v u d e, vs = [v, u] ∧ Rp K H v d ∧ Rp K H u e ∧ noL e = true ∧ deepD e ≤ n ∧ ∀ b H', Same H H' → (b = true ↔ d = e) → Q (.bl b) H'
section
variable {P : Program} {w : World} {K : PySem.W.Frag} {mg : Str → Option Value} {base : Heap} {ad : Nat → Addr} {fd : Nat → FuncData}
theorem same_step (T : Txt K mg ad fd) (n : Nat) (sp : Sp) (F : FnOk P w K mg base CX0 n (ad 49) (fd 49) ["_law_one", "_law_other"] sp) (hsp : ∀ m vs H Q E, n = m + 1 → spSame K m vs H Q E → sp vs H Q E) :
    FnOk P w K mg base CX0 (n + 1) (ad 49) (fd 49) ["_law_one", "_law_other"] (spSame K n) := by
  refine T.F__law_same.ok sc__law_same (fun vs H Q E h => ?_) (fun cdv A outer s H vs Q E hr h => ?_)
  · obtain ⟨v, u, d, e, rfl, _⟩ := h
    rfl
  · obtain ⟨v, u, d, e, rfl, hv, hu, ne, de, k⟩ := h
    refine ⟨_, (pss_cons (ps_if (pt_val (pe_callB (isiR K) (by rfl) T.g_isinstance (by decide +kernel) (pa_cons (pv 1) (pa_cons (pe_bltn (v := .ty "tuple") (by rfl) T.g_tuple (by decide +kernel) rfl) pa_nil)))) (pss_cons (ps_if (PW.pt (pw_or (pt_not (pt_val (pe_callB (isiR K) (by rfl) T.g_isinstance (by decide +kernel) (pa_cons (pv 0) (pa_cons (pe_bltn (v := .ty "tuple") (by rfl) T.g_tuple (by decide +kernel) rfl) pa_nil))))) (pw_or1 (pt_cmpR op_ne (pe_callB (lenS K) (by rfl) T.g_len (by decide +kernel) (pa_cons (pv 0) pa_nil)) (pe_callB (lenS K) (by rfl) T.g_len (by decide +kernel) (pa_cons (pv 1) pa_nil)) (nomark _))))) (pss_one (ps_ret pe_bl))
  pss_nil)
  (pss_cons (ps_for PassesOwn.never rfl (pi_range1 rfl T.g_range (pa_cons (pe_callB (lenS K) (by rfl) T.g_len (by decide +kernel) (pa_cons (pv 1) pa_nil)) pa_nil)) (pg_name (i := 2) (x := "_law_k") sc__law_same.nd rfl (Or.inl rfl))
  (pss_one (ps_if (pt_not (pt_val (pe_call F hr rfl T.m__law_same T.F__law_same.kp (b__law_same T) .nil pass0 (pa_cons (pe_ix (ixT K) (pv 0) (pv 2) (fun _ _ => rfl)) (pa_cons (pe_ix (ixT K) (pv 1) (pv 2) (fun _ _ => rfl)) pa_nil))))) (pss_one (ps_ret pe_bl))
  pss_nil)))
  (pss_one (ps_ret pe_bl))))
  pss_nil)
  (pss_cons (ps_if (pt_cmpR op_isN (pv 1) pe_non (nomark _)) (pss_one (ps_ret (pe_cmpR op_isN (pv 0) pe_non (nomark _))))
  pss_nil)
  (pss_cons (ps_if (PW.pt (pw_or (pt_val (pe_callB (isiR K) (by rfl) T.g_isinstance (by decide +kernel) (pa_cons (pv 1) (pa_cons (pe_bltn (v := .ty "bool") (by rfl) T.g_bool (by decide +kernel) rfl) pa_nil)))) (pw_or1 (pt_val (pe_callB (isiR K) (by rfl) T.g_isinstance (by decide +kernel) (pa_cons (pv 0) (pa_cons (pe_bltn (v := .ty "bool") (by rfl) T.g_bool (by decide +kernel) rfl) pa_nil))))))) (pss_one (ps_ret (pe_and (pe_callB (isiR K) (by rfl) T.g_isinstance (by decide +kernel) (pa_cons (pv 0) (pa_cons (pe_bltn (v := .ty "bool") (by rfl) T.g_bool (by decide +kernel) rfl) pa_nil))) (pe_and (pe_callB (isiR K) (by rfl) T.g_isinstance (by decide +kernel) (pa_cons (pv 1) (pa_cons (pe_bltn (v := .ty "bool") (by rfl) T.g_bool (by decide +kernel) rfl) pa_nil))) (pe_one (pe_cmpR op_eq (pv 0) (pv 1) (nomark _)))))))
  pss_nil)
  (pss_cons (ps_if (pt_val (pe_callB (isiR K) (by rfl) T.g_isinstance (by decide +kernel) (pa_cons (pv 1) (pa_cons (pe_bltn (v := .ty "str") (by rfl) T.g_str (by decide +kernel) rfl) pa_nil)))) (pss_one (ps_ret (pe_and (pe_callB (isiR K) (by rfl) T.g_isinstance (by decide +kernel) (pa_cons (pv 0) (pa_cons (pe_bltn (v := .ty "str") (by rfl) T.g_str (by decide +kernel) rfl) pa_nil))) (pe_one (pe_cmpR op_eq (pv 0) (pv 1) (nomark _))))))
  pss_nil)
  (pss_one (ps_ret (pe_and (pe_callB (isiR K) (by rfl) T.g_isinstance (by decide +kernel) (pa_cons (pv 0) (pa_cons (pe_bltn (v := .ty "int") (by rfl) T.g_int (by decide +kernel) rfl) pa_nil))) (pe_one (pe_cmpR op_eq (pv 0) (pv 1) (nomark _)))))))))), ?_⟩
    refine ⟨_, rfl, u, .ty "tuple", _, _, _, rfl, .ty _, hu.ty, isi_tuple hu, _, rfl, ?_⟩
    cases hu with
    | @tup a ys es sy ly ry =>
      refine iteT ⟨_, rfl, v, .ty "tuple", _, _, _, rfl, .ty _, hv.ty, isi_tuple hv, _, rfl, ?_⟩
      have hne : ∀ d', isTupB d' = false → ¬ d' = PyData.tuple es := fun d' h e => by rw [e] at h; cases h
      cases hv with
      | @tup a' xs ds sx lx rx =>
        refine iteF ⟨_, rfl, a', _, rfl, .inr sx, _, rfl, a, _, rfl, .inr sy, rfl, _, rfl, ?_⟩
        have l1 := rx.length
        have l2 := ry.length
        by_cases c : xs.length = ys.length
        rotate_left
        · rw [decide_eq_false (show ¬ V.int (xs.length : Nat) = V.int (ys.length : Nat) from fun z => c (by injection z with z; omega))]
          refine iteT (k false _ (Same.refl _) ⟨(fun z => by cases z), fun z => ?_⟩)
          have : ds = es := by injection z
          rw [this] at l1
          omega
        rw [decide_eq_true (show V.int (xs.length : Nat) = V.int (ys.length : Nat) by rw [c])]
        obtain ⟨m, rfl⟩ : ∃ m, n = m + 1 := ⟨n - 1, by unfold deepD at de; omega⟩
        have de2 : deepDs es ≤ m := by
          unfold deepD at de
          omega
        have hs1 : (1000 : Nat) < 2 ^ 62 := by decide
        refine iteF ⟨_, rfl, a, _, rfl, .inr sy, _, rfl, ?_, ?_, for_range (fun i σ H1 => ∃ v2, σ = [some (.ref a'), some (.ref a), v2] ∧ Same H H1 ∧ ∀ j, j < i → ds[j]? = es[j]?)
          ⟨none, rfl, Same.refl _, fun j hj => absurd hj (Nat.not_lt_zero _)⟩ (fun i σ H1 hi ⟨v2, e1, s1, hp⟩ => ?_) (fun σ H1 ⟨v2, e1, s1, hp⟩ => ?_)⟩
        · omega
        · omega
        · subst e1
          have hi2 : i < ys.length := by simpa using hi
          obtain ⟨u2, hu2⟩ : ∃ u2, ys[i]? = some u2 := ⟨_, List.getElem?_eq_getElem hi2⟩
          obtain ⟨v3, hv3⟩ : ∃ v3, xs[i]? = some v3 := ⟨_, List.getElem?_eq_getElem (by omega)⟩
          obtain ⟨e2, he2, re2⟩ := ry.get hu2
          obtain ⟨d2, hd2, rd2⟩ := rx.get hv3
          refine ⟨_, rfl, _, rfl, a', _, _, _, rfl, rfl, seqT s1 sx, at_of (j := i) (by omega) hv3, _, rfl, _, rfl, a, _, _, _, rfl, rfl, seqT s1 sy, at_of (j := i) (by omega) hu2, ?_⟩
          refine hsp m _ _ _ _ rfl ⟨v3, u2, d2, e2, rfl, rd2.same s1, re2.same s1, noLs_mem (by simpa [noL] using ne) (List.mem_of_getElem? he2), Nat.le_trans (deepDs_mem (List.mem_of_getElem? he2)) de2, fun b H2 s2 hb => ⟨_, rfl, ?_⟩⟩
          cases b with
          | false =>
            refine iteT (k false _ (s1.trans s2) ⟨(fun z => by cases z), fun z => ?_⟩)
            have ez : ds = es := by injection z
            rw [ez, he2] at hd2
            exact hb.mpr (Option.some.inj hd2).symm
          | true =>
            refine iteF ⟨_, rfl, s1.trans s2, fun j hj => ?_⟩
            by_cases ej : j = i
            · subst ej
              rw [hd2, he2, hb.mp rfl]
            · exact hp j (by omega)
        · subst e1
          refine k true _ s1 ⟨fun _ => ?_, fun _ => rfl⟩
          congr 1
          refine List.ext_getElem? fun j => ?_
          by_cases hj : j < ys.length
          · exact hp j (by omega)
          · rw [List.getElem?_eq_none (by omega), List.getElem?_eq_none (by omega)]
      | _ => exact iteT (iteT (k false _ (Same.refl _) ⟨(fun z => by cases z), fun z => absurd z (hne _ rfl)⟩))
    | non =>
      refine iteF ⟨_, rfl, rfl, _, rfl, ?_⟩
      refine iteT ⟨_, rfl, rfl, k _ _ (Same.refl _) ?_⟩
      cases hv <;> simp
    | lst => exact absurd ne (by simp [noL])
    | bl c =>
      refine iteF ⟨_, rfl, rfl, _, rfl, iteF ?_⟩
      refine ⟨_, rfl, .bl c, .ty "bool", _, _, _, rfl, .ty _, TyX.base (.bl c), isi_bool (K := K) (H := H) (.bl c), _, rfl, ?_⟩
      refine iteT (iteT ⟨_, rfl, v, .ty "bool", _, _, _, rfl, .ty _, hv.ty, isi_bool hv, _, rfl, ?_⟩)
      cases hv with
      | bl c2 =>
        refine iteT ⟨_, rfl, .bl c, .ty "bool", _, _, _, rfl, .ty _, TyX.base (.bl c), isi_bool (K := K) (H := H) (.bl c), _, rfl, iteT ⟨_, rfl, _, rfl, rfl, k _ _ (Same.refl _) ?_⟩⟩
        cases c <;> cases c2 <;> simp
      | _ => exact iteF (k _ _ (Same.refl _) ⟨(fun z => by cases z), fun z => by cases z⟩)
    | str y =>
      refine iteF ⟨_, rfl, rfl, _, rfl, iteF ?_⟩
      refine ⟨_, rfl, .str y, .ty "bool", _, _, _, rfl, .ty _, TyX.base (.str y), isi_bool (K := K) (H := H) (.str y), _, rfl, ?_⟩
      refine iteF ⟨_, rfl, v, .ty "bool", _, _, _, rfl, .ty _, hv.ty, isi_bool hv, _, rfl, ?_⟩
      have hv0 := hv
      cases hv with
      | bl c2 =>
        refine iteT ⟨_, rfl, .bl c2, .ty "bool", _, _, _, rfl, .ty _, hv0.ty, isi_bool hv0, _, rfl, iteT ⟨_, rfl, .str y, .ty "bool", _, _, _, rfl, .ty _, TyX.base (.str y), isi_bool (K := K) (H := H) (.str y), _, rfl, iteF (k _ _ (Same.refl _) ⟨(fun z => by cases z), fun z => by cases z⟩)⟩⟩
      | str x =>
        refine iteF ⟨_, rfl, .str y, .ty "str", _, _, _, rfl, .ty _, TyX.base (.str y), isi_str (K := K) (H := H) (.str y), _, rfl, ?_⟩
        refine iteT ⟨_, rfl, .str x, .ty "str", _, _, _, rfl, .ty _, hv0.ty, isi_str hv0, _, rfl, iteT ⟨_, rfl, _, rfl, rfl, k _ _ (Same.refl _) ?_⟩⟩
        simp
      | _ =>
        refine iteF ⟨_, rfl, .str y, .ty "str", _, _, _, rfl, .ty _, TyX.base (.str y), isi_str (K := K) (H := H) (.str y), _, rfl, ?_⟩
        exact iteT ⟨_, rfl, _, .ty "str", _, _, _, rfl, .ty _, hv0.ty, isi_str hv0, _, rfl, iteF (k _ _ (Same.refl _) ⟨(fun z => by cases z), fun z => by cases z⟩)⟩
    | int j =>
      refine iteF ⟨_, rfl, rfl, _, rfl, iteF ?_⟩
      refine ⟨_, rfl, .int j, .ty "bool", _, _, _, rfl, .ty _, TyX.base (.int j), isi_bool (K := K) (H := H) (.int j), _, rfl, ?_⟩
      refine iteF ⟨_, rfl, v, .ty "bool", _, _, _, rfl, .ty _, hv.ty, isi_bool hv, _, rfl, ?_⟩
      have hv0 := hv
      cases hv with
      | bl c2 =>
        refine iteT ⟨_, rfl, .bl c2, .ty "bool", _, _, _, rfl, .ty _, hv0.ty, isi_bool hv0, _, rfl, iteT ⟨_, rfl, .int j, .ty "bool", _, _, _, rfl, .ty _, TyX.base (.int j), isi_bool (K := K) (H := H) (.int j), _, rfl, iteF (k _ _ (Same.refl _) ⟨(fun z => by cases z), fun z => by cases z⟩)⟩⟩
      | int i =>
        refine iteF ⟨_, rfl, .int j, .ty "str", _, _, _, rfl, .ty _, TyX.base (.int j), isi_str (K := K) (H := H) (.int j), _, rfl, ?_⟩
        refine iteF ⟨_, rfl, .int i, .ty "int", _, _, _, rfl, .ty _, hv0.ty, isi_int hv0, _, rfl, iteT ⟨_, rfl, _, rfl, rfl, k _ _ (Same.refl _) ?_⟩⟩
        simp
      | _ =>
        refine iteF ⟨_, rfl, .int j, .ty "str", _, _, _, rfl, .ty _, TyX.base (.int j), isi_str (K := K) (H := H) (.int j), _, rfl, ?_⟩
        exact iteF ⟨_, rfl, _, .ty "int", _, _, _, rfl, .ty _, hv0.ty, isi_int hv0, _, rfl, iteF (k _ _ (Same.refl _) ⟨(fun z => by cases z), fun z => by cases z⟩)⟩
theorem ok__law_same_n (T : Txt K mg ad fd) : ∀ n, FnOk P w K mg base CX0 (n + 1) (ad 49) (fd 49) ["_law_one", "_law_other"] (spSame K n)
  | 0 => same_step T 0 (fun _ _ _ _ => False) ⟨fun _ _ _ _ h => h.elim, fun _ _ _ _ _ _ _ _ _ _ _ _ _ h => h.elim⟩ (fun m vs H Q E e _ => by cases e)
  | n + 1 => same_step T (n + 1) _ (ok__law_same_n T n) fun m vs H Q E e h => by
    have : n = m := by omega
    subst this
    exact h
theorem ok__law_same (T : Txt K mg ad fd) : FnOk P w K mg base CX0 5 (ad 49) (fd 49) ["_law_one", "_law_other"] (spSame K 4) := ok__law_same_n T 4
end
end LK
namespace LK
open PySem PySem.Spec PyProof.Rows L2
def eightDue : List (List Int) := [[0, 1], [1, 2], [2, 3], [3, 4], [4, 5, 6], [5, 6], [6, 7], [8, 9]]
def eightTold : List (List Int) := [[1, 0], [1, 2], [3, 2], [3, 4], [6, 4, 5], [6, 5], [6, 7], [9, 8]]
theorem eight_first : ∀ r ∈ eightTold, FirstRow 10 r := by
  unfold eightTold FirstRow
  decide
theorem srt_of {l ns : List Int} (p : ns.Perm l) (h : ns.Pairwise (· ≤ ·)) : srt l = ns := (srt_eq p h).symm
theorem eight_srt : eightTold.map srt = eightDue := by
  unfold eightTold eightDue
  simp only [List.map_cons, List.map_nil]
  rw [srt_of (l := [1, 0]) (ns := [0, 1]) (by decide) (by decide), srt_of (l := [1, 2]) (ns := [1, 2]) (by decide) (by decide), srt_of (l := [3, 2]) (ns := [2, 3]) (by decide) (by decide), srt_of (l := [3, 4]) (ns := [3, 4]) (by decide) (by decide), srt_of (l := [6, 4, 5]) (ns := [4, 5, 6]) (by decide) (by decide), srt_of (l := [6, 5]) (ns := [5, 6]) (by decide) (by decide), srt_of (l := [6, 7]) (ns := [6, 7]) (by decide) (by decide), srt_of (l := [9, 8]) (ns := [8, 9]) (by decide) (by decide)]

section
variable {P : Program} {w : World} {K : PySem.W.Frag} {mg : Str → Option Value} {base : Heap} {ad : Nat → Addr} {fd : Nat → FuncData}
theorem ok__law_eight (T : Txt K mg ad fd) : FnOk P w K mg base CX0 9 (ad 55) (fd 55) [] (fun vs H Q _ => vs = [] ∧ ∀ H', Same H H' → Q (.bl true) H') := by
  refine T.F__law_eight.ok sc__law_eight (fun vs H Q E h => ?_) (fun cdv A outer s H vs Q E hr h => ?_)
  · obtain ⟨rfl, _⟩ := h
    rfl
  · obtain ⟨rfl, k⟩ := h
    refine ⟨_, (pss_cons (ps_set (i := 0) sc__law_eight.nd rfl (Or.inl rfl) (pe_tup (pa_cons pe_int (pa_cons (pe_tup (pa_cons (pe_tup (pa_cons pe_int (pa_cons pe_int pa_nil))) (pa_cons (pe_tup (pa_cons pe_int (pa_cons pe_int pa_nil))) (pa_cons (pe_tup (pa_cons pe_int (pa_cons pe_int pa_nil))) (pa_cons (pe_tup (pa_cons pe_int (pa_cons pe_int pa_nil))) (pa_cons (pe_tup (pa_cons pe_int (pa_cons pe_int (pa_cons pe_int pa_nil)))) (pa_cons (pe_tup (pa_cons pe_int (pa_cons pe_int pa_nil))) (pa_cons (pe_tup (pa_cons pe_int (pa_cons pe_int pa_nil))) (pa_cons (pe_tup (pa_cons pe_int (pa_cons pe_int pa_nil))) pa_nil))))))))) pa_nil))))
  (pss_cons (ps_set (i := 1) sc__law_eight.nd rfl (Or.inl rfl) (pe_callRR (ok_book_of T) (hr.mono (by decide)) rfl T.m_book_of T.F_book_of.kp passL (pa_cons pe_int (pa_cons (pe_tup (pa_cons pe_int (pa_cons pe_int pa_nil))) (pa_cons (pe_tup (pa_cons pe_int (pa_cons pe_int pa_nil))) (pa_cons (pe_tup (pa_cons pe_int (pa_cons pe_int pa_nil))) (pa_cons (pe_tup (pa_cons pe_int (pa_cons pe_int pa_nil))) (pa_cons (pe_tup (pa_cons pe_int (pa_cons pe_int (pa_cons pe_int pa_nil)))) (pa_cons (pe_tup (pa_cons pe_int (pa_cons pe_int pa_nil))) (pa_cons (pe_tup (pa_cons pe_int (pa_cons pe_int pa_nil))) (pa_cons (pe_tup (pa_cons pe_int (pa_cons pe_int pa_nil))) pa_nil)))))))))))
  (pss_one (ps_ret (pe_and (pe_call (ok__law_same T) (hr.mono (by decide)) rfl T.m__law_same T.F__law_same.kp (b__law_same T) .nil pass0 (pa_cons (pv 1) (pa_cons (pv 0) pa_nil))) (pe_one (pe_call (ok__law_same T) (hr.mono (by decide)) rfl T.m__law_same T.F__law_same.kp (b__law_same T) .nil pass0 (pa_cons (pe_callRR (ok_book_of T) (hr.mono (by decide)) rfl T.m_book_of T.F_book_of.kp passL (pa_cons pe_int pa_nil)) (pa_cons (pe_tup (pa_cons pe_int (pa_cons (pe_tup pa_nil) pa_nil))) pa_nil))))))))), ?_⟩
    refine ⟨(by show 2 ≤ sizeLine; decide), fun p0 hp0 => ⟨(by show 2 ≤ sizeLine; decide), fun p1 hp1 => ⟨(by show 2 ≤ sizeLine; decide), fun p2 hp2 => ⟨(by show 2 ≤ sizeLine; decide), fun p3 hp3 => ⟨(by show 3 ≤ sizeLine; decide), fun p4 hp4 => ⟨(by show 2 ≤ sizeLine; decide), fun p5 hp5 => ⟨(by show 2 ≤ sizeLine; decide), fun p6 hp6 => ⟨(by show 2 ≤ sizeLine; decide), fun p7 hp7 => ⟨(by show 8 ≤ sizeLine; decide), fun p8 hp8 => ⟨(by show 2 ≤ sizeLine; decide), fun p9 hp9 => ?_⟩⟩⟩⟩⟩⟩⟩⟩⟩⟩
    have hd : Rp K _ (.ref p9) (bookD 10 eightDue) := .tup (SqT.of (upd_same)) (by show 2 ≤ 1000; decide) (.two (.int 10) (.tup (SqT.of (same_upd hp9 _ _ upd_same)) (by show 8 ≤ 1000; decide) (.cons (TupI.rp ⟨SqT.of (same_upd hp9 _ _ (same_upd hp8 _ _ (same_upd hp7 _ _ (same_upd hp6 _ _ (same_upd hp5 _ _ (same_upd hp4 _ _ (same_upd hp3 _ _ (same_upd hp2 _ _ (same_upd hp1 _ _ upd_same))))))))), by decide⟩) (.cons (TupI.rp ⟨SqT.of (same_upd hp9 _ _ (same_upd hp8 _ _ (same_upd hp7 _ _ (same_upd hp6 _ _ (same_upd hp5 _ _ (same_upd hp4 _ _ (same_upd hp3 _ _ (same_upd hp2 _ _ upd_same)))))))), by decide⟩) (.cons (TupI.rp ⟨SqT.of (same_upd hp9 _ _ (same_upd hp8 _ _ (same_upd hp7 _ _ (same_upd hp6 _ _ (same_upd hp5 _ _ (same_upd hp4 _ _ (same_upd hp3 _ _ upd_same))))))), by decide⟩) (.cons (TupI.rp ⟨SqT.of (same_upd hp9 _ _ (same_upd hp8 _ _ (same_upd hp7 _ _ (same_upd hp6 _ _ (same_upd hp5 _ _ (same_upd hp4 _ _ upd_same)))))), by decide⟩) (.cons (TupI.rp ⟨SqT.of (same_upd hp9 _ _ (same_upd hp8 _ _ (same_upd hp7 _ _ (same_upd hp6 _ _ (same_upd hp5 _ _ upd_same))))), by decide⟩) (.cons (TupI.rp ⟨SqT.of (same_upd hp9 _ _ (same_upd hp8 _ _ (same_upd hp7 _ _ (same_upd hp6 _ _ upd_same)))), by decide⟩) (.cons (TupI.rp ⟨SqT.of (same_upd hp9 _ _ (same_upd hp8 _ _ (same_upd hp7 _ _ upd_same))), by decide⟩) (.cons (TupI.rp ⟨SqT.of (same_upd hp9 _ _ (same_upd hp8 _ _ upd_same)), by decide⟩) .nil))))))))))
    refine ⟨(by show 2 ≤ sizeLine; decide), fun q0 hq0 => ⟨(by show 2 ≤ sizeLine; decide), fun q1 hq1 => ⟨(by show 2 ≤ sizeLine; decide), fun q2 hq2 => ⟨(by show 2 ≤ sizeLine; decide), fun q3 hq3 => ⟨(by show 3 ≤ sizeLine; decide), fun q4 hq4 => ⟨(by show 2 ≤ sizeLine; decide), fun q5 hq5 => ⟨(by show 2 ≤ sizeLine; decide), fun q6 hq6 => ⟨(by show 2 ≤ sizeLine; decide), fun q7 hq7 => ?_⟩⟩⟩⟩⟩⟩⟩⟩
    have sq := ((((((((same_upd hq0).trans (same_upd hq1)).trans (same_upd hq2)).trans (same_upd hq3)).trans (same_upd hq4)).trans (same_upd hq5)).trans (same_upd hq6)).trans (same_upd (o := .tup [V.int 9, V.int 8]) hq7))
    have ht : RpAll K _ [.ref q0, .ref q1, .ref q2, .ref q3, .ref q4, .ref q5, .ref q6, .ref q7] (eightTold.map dTup) := (.cons (TupI.rp ⟨SqT.of (same_upd hq7 _ _ (same_upd hq6 _ _ (same_upd hq5 _ _ (same_upd hq4 _ _ (same_upd hq3 _ _ (same_upd hq2 _ _ (same_upd hq1 _ _ upd_same))))))), by decide⟩) (.cons (TupI.rp ⟨SqT.of (same_upd hq7 _ _ (same_upd hq6 _ _ (same_upd hq5 _ _ (same_upd hq4 _ _ (same_upd hq3 _ _ (same_upd hq2 _ _ upd_same)))))), by decide⟩) (.cons (TupI.rp ⟨SqT.of (same_upd hq7 _ _ (same_upd hq6 _ _ (same_upd hq5 _ _ (same_upd hq4 _ _ (same_upd hq3 _ _ upd_same))))), by decide⟩) (.cons (TupI.rp ⟨SqT.of (same_upd hq7 _ _ (same_upd hq6 _ _ (same_upd hq5 _ _ (same_upd hq4 _ _ upd_same)))), by decide⟩) (.cons (TupI.rp ⟨SqT.of (same_upd hq7 _ _ (same_upd hq6 _ _ (same_upd hq5 _ _ upd_same))), by decide⟩) (.cons (TupI.rp ⟨SqT.of (same_upd hq7 _ _ (same_upd hq6 _ _ upd_same)), by decide⟩) (.cons (TupI.rp ⟨SqT.of (same_upd hq7 _ _ upd_same), by decide⟩) (.cons (TupI.rp ⟨SqT.of upd_same, by decide⟩) .nil))))))))
    have sp := ((((((((((same_upd hp0).trans (same_upd hp1)).trans (same_upd hp2)).trans (same_upd hp3)).trans (same_upd hp4)).trans (same_upd hp5)).trans (same_upd hp6)).trans (same_upd hp7)).trans (same_upd hp8)).trans (same_upd (o := .tup [V.int 10, V.ref p8]) hp9))
    refine ⟨.int 10, _, .int 10, _, rfl, .int 10, (by show 8 ≤ 1000; decide), ht, ?_⟩
    rw [bookOf_first (by decide) eight_first, eight_srt]
    refine fun z H1 s1 hz => ?_
    refine ⟨_, rfl, _, rfl, z, .ref p9, _, _, rfl, hz, hd.same (sq.trans s1), noL_book _ _, by decide, fun b H2 s2 hb => ⟨_, rfl, ?_⟩⟩
    have : b = true := hb.mpr rfl
    subst this
    refine iteT ⟨.int 1, [], .int 1, [], rfl, .int 1, by decide, .nil, ?_⟩
    have e1 : bookOfX (.int 1) [] = .ok (bookD 1 []) := bookOf_first (n := 1) (rows := []) (by decide) (fun r hr => by simp at hr)
    rw [e1]
    refine fun z2 H3 s3 hz2 => ⟨(by show 0 ≤ sizeLine; decide), fun u0 hu0 => ⟨(by show 2 ≤ sizeLine; decide), fun u1 hu1 => ?_⟩⟩
    have su := (same_upd (o := .tup []) hu0).trans (same_upd (o := .tup [V.int 1, V.ref u0]) hu1)
    refine ⟨z2, .ref u1, _, bookD 1 [], rfl, hz2.same su, .tup (SqT.of upd_same) (by show 2 ≤ 1000; decide) (.two (.int 1) (.tup (SqT.of (same_upd hu1 _ _ upd_same)) (by show 0 ≤ 1000; decide) .nil)), noL_book _ _, by decide, fun b2 H5 s5 hb2 => ?_⟩
    have : b2 = true := hb2.mpr rfl
    subst this
    exact k _ (sp.trans (sq.trans (s1.trans (s2.trans (s3.trans (su.trans s5))))))
end
end LK
/-! tuple[::-1] -/
namespace LK
open PySem PySem.Spec PyProof.Rows L2 HT
section
variable {prog : Program} {w : World} {A : Around} {E : Value → Shared → Prop} {s : Shared}
theorem places_rev (n : Nat) : Builtin.Slice.slicePlaces ((n : Int) - 1) (-1) (-1) = n := by
  unfold Builtin.Slice.slicePlaces
  have h1 : ¬ ((-1 : Int) > 0) := by omega
  simp only [h1, if_false]
  by_cases h : (n : Int) - 1 > -1
  · simp only [h, if_true]
    have : ((n : Int) - 1 - -1 - 1) / (- -1) = (n : Int) - 1 := by
      rw [show (- -1 : Int) = 1 by decide, Int.ediv_one]
      omega
    omega
  · simp only [h, if_false]
    omega
theorem sliceApplied_rev {sl : Addr} {vs : Value} {n : Nat} {Q : Int × Int × Nat → Shared → Prop} (hs : s.heap.IsSliceOf sl .none .none vs) (ps : IsPart vs (some (-1)))
    (h : Q ((n : Int) - 1, -1, n) s) : wpAny (model prog w) A (Builtin.Slice.sliceApplied (.ref sl) (pure (n : Int))) Q E s := by
  obtain ⟨os, hos, hcs, hds⟩ := id hs
  unfold Builtin.Slice.sliceApplied Builtin.Slice.sliceFields
  refine wpAny_bind (wpAny_bind (wpAny_field hos hds (x := .none) rfl (wpAny_bind (wpAny_field hos hds (x := .none) rfl (wpAny_bind (wpAny_field hos hds (x := vs) rfl (wpAny_pure ?_)))))))
  refine wpAny_bind (slicePart_ ps ?_)
  show wpAny _ _ (if ((-1 : Int) == 0) = true then _ else _) _ _ s
  rw [if_neg (by decide)]
  refine wpAny_bind (slicePart_none (wpAny_bind (slicePart_none (wpAny_bind (wpAny_pure ?_)))))
  show wpAny _ _ (pure ((n : Int) - 1, (-1 : Int), Builtin.Slice.slicePlaces ((n : Int) - 1) (-1) (-1))) _ _ s
  rw [places_rev]
  exact wpAny_pure h
theorem fm_congr {α β : Type} {f g : α → Option β} : ∀ {l : List α}, (∀ x ∈ l, f x = g x) → l.filterMap f = l.filterMap g
  | [], _ => rfl
  | x :: l, h => by
    rw [List.filterMap_cons, List.filterMap_cons, h x (by simp), fm_congr fun y hy => h y (by simp [hy])]
theorem pick_rev (xs : Array Value) : ((List.range xs.size).filterMap fun (m : Nat) => xs[((xs.size : Int) - 1 + (m : Int) * -1).toNat]?).toArray = xs.toList.reverse.toArray := by
  have e : (List.range xs.size).filterMap (fun (m : Nat) => xs[((xs.size : Int) - 1 + (m : Int) * -1).toNat]?) = ((List.range xs.size).map fun k => xs.size - 1 - k).filterMap (xs[·]?) := by
    rw [List.filterMap_map]
    refine fm_congr fun m hm => ?_
    have := List.mem_range.mp hm
    have e2 : ((xs.size : Int) - 1 + (m : Int) * -1).toNat = xs.size - 1 - m := by omega
    rw [e2]
    rfl
  rw [e, PySem.W.krv_range, List.filterMap_reverse, PySem.W.krv_all]
theorem getItem_tuple_rev {t sl : Addr} {items : Array Value} {vs : Value} {Q : Value → Shared → Prop} (ht : IsTup s.heap t items) (hs : s.heap.IsSliceOf sl .none .none vs) (ps : IsPart vs (some (-1)))
    (h : Q (.ref s.heap.objs.size) { s with heap := s.heap.push { cls := .type "tuple", data := .seq items.toList.reverse.toArray } })
    (hsz : items.size ≤ sizeLine) : wpAny (model prog w) A (getItem (.ref t) (.ref sl)) Q E s := by
  have htake : sizeOk (.seq items.toList.reverse.toArray) := by
    show items.toList.reverse.toArray.size ≤ sizeLine
    rw [List.size_toArray, List.length_reverse, Array.length_toList]
    exact hsz
  obtain ⟨os, hos, hcs, hds⟩ := id hs
  have hTs : s.TypeIs (.ref sl) "slice" := ⟨os, hos, hcs⟩
  unfold getItem
  try with_reducible refine wpAny_holding ?_
  first | refine wpAny_bind (wpAny_pure ?_) | skip
  refine wpAny_bind (wpAny_sequenceKey ht.typeIs (by decide) ?_)
  refine wpAny_bind (wpAny_callSpecial?_slot (name := Str.ofString "__getitem__") ht.typeIs PyProof.Rows.slot_tuple_getitem
    (wpAny_call_entry PyProof.Rows.slot_tuple_getitem ht.typeIs entry_tuple_getitem ?_ (args_tuple_getitem _ _)))
  show wpAny _ _ (Builtin.Tuple.tupleItemsOf (.ref t) >>= _) _ _ s
  refine wpAny_bind (tupleItemsOf_ ht ?_)
  refine wpAny_bind (wpAny_typeOf hTs ?_)
  rw [if_pos (by decide)]
  refine wpAny_bind (sliceApplied_rev hs ps ?_)
  have hno : ¬ ((((items.size : Int) - 1 == 0) && ((-1 : Int) == 1) && (items.size == items.size)) = true) := by
    intro q
    rw [Bool.and_eq_true, Bool.and_eq_true] at q
    exact absurd q.1.2 (by decide)
  show wpAny _ _ (if (((items.size : Int) - 1 == 0) && ((-1 : Int) == 1) && (items.size == items.size)) = true then _ else _) _ _ s
  rw [if_neg hno, pick_rev]
  first
    | exact wpAny_bind (m := Builtin.Tuple.tupleExact _) (wpAny_newObj_type (wpAny_pure ⟨_, rfl, wpAny_pure h⟩) htake)
    | exact wpAny_bind (m := Builtin.Tuple.tupleExact _) (wpAny_newObj_type (wpAny_bind (wpAny_pure (wpAny_pure ⟨_, rfl, wpAny_pure h⟩))) htake)
    | exact wpAny_bind (wpAny_bind (m := Builtin.Tuple.tupleExact _) (wpAny_newObj_type (wpAny_pure (wpAny_pure ⟨_, rfl, wpAny_pure h⟩)) htake))
    | exact wpAny_bind (wpAny_bind (m := Builtin.Tuple.tupleExact _) (wpAny_newObj_type (wpAny_pure ⟨_, rfl, wpAny_pure h⟩) htake))
end
def tRevT (K : PySem.W.Frag) (te : TE) : TE := fun σ H Q => te σ H fun x H1 => ∃ a xs, x = .ref a ∧ SqT K H1 a xs ∧ ∀ p, H1 p = none → Q (.ref p) (upd H1 p (.tup xs.reverse))
theorem pe_revT {X : Cx} (K : PySem.W.Frag) {e : Expr} {te : TE} {k : Nat} {p1 p2 p3 pos : Pos} (he : PE X e te) (hK : X.K = K := by rfl) : PE X (.Subscript e (.Slice none none (some (.UnaryOp .USub (.Constant (.int 1) k p1) p2)) p3) pos) (tRevT K te) := by
  subst hK
  refine ⟨fun pins s σ H Q I h => ?_⟩
  refine Subscript_ (thn (he.run pins s σ H _ I h) fun v s1 ⟨x, H1, I1, r1, q1⟩ => ?_)
  obtain ⟨a, xs, ex, hx, q⟩ := q1
  subst ex
  cases r1
  have hst : PO X (some (.UnaryOp .USub (.Constant (.int 1) k p1) p2)) (tPart (tUn (rU fun i => .int (-i)) (tC (.int 1)))) := po_some (pe_un un_neg pe_int)
  refine wpAny_Slice (thn (po_none.run pins s1 σ H1 (fun o H2 => o = none ∧ H2 = H1) I1 ⟨rfl, rfl⟩) fun vl s2 ⟨l, H2, I2, pl, el, e2⟩ => ?_)
  subst el e2
  refine thn (po_none.run pins s2 σ H2 (fun o H3 => o = none ∧ H3 = H2) I2 ⟨rfl, rfl⟩) fun vu s3 ⟨u, H3, I3, pu, eu, e3⟩ => ?_
  subst eu e3
  refine thn (hst.run pins s3 σ H3 (fun o H4 => o = some (-1) ∧ H4 = H3) I3 ⟨1, rfl, -1, rfl, rfl, rfl⟩) fun vs s4 ⟨o, H4, I4, ps, eo, e4⟩ => ?_
  subst eo e4
  cases pl
  cases pu
  have I5 : Inv X pins σ H4 { s4 with heap := s4.heap.push { cls := .type "slice", data := .fields #[.none, .none, vs] } } := I4.kept (t' := s4.toks) fun b ob q => Heap.get?_push_of_some _ q
  obtain ⟨its, r, ht, hz⟩ := I5.tuple hx
  have hlen := r.length
  show wpAny (model X.prog X.w) X.A (subscriptTail e (.Slice none none (some (.UnaryOp .USub (.Constant (.int 1) k p1) p2)) p3) (.ref a) (.ref s4.heap.objs.size)) (EP X pins σ Q) X.xe { s4 with heap := s4.heap.push { cls := .type "slice", data := .fields #[.none, .none, vs] } }
  refine tail_any (ops := [.ref a, .ref s4.heap.objs.size]) ht.typeIs (PyProof.Rows.slot_tuple_getitem.lookup) ?_ (by with_unfolding_all rfl)
  refine getItem_tuple_rev ht (Heap.IsSliceOf.new _ .none .none vs) ps ?_ (by rw [List.size_toArray]; omega)
  refine ⟨.ref _, _, I5.laid (t' := s4.toks) (o := .tup xs.reverse) (fun b ob q => Heap.get?_push_of_some _ q) (Nat.le_refl _) ?_, rfl, q _ (I5.hok.fresh (Nat.le_refl _))⟩
  exact ⟨by rw [List.length_reverse]; exact hz, _, r.reverse, IsTup.new _ _⟩
end LK
namespace LK
open PySem PySem.Spec PyProof.Rows L2
theorem repT {X : Cx} (K : PySem.W.Frag) (hK : X.K = K := by rfl) : OpR X (binaryOp .Mult) (rRepT K) := hK ▸ op_repT
/-- a value that is refused, by what it is handed to -/
inductive BadK (n : Int) (many : Nat) : Int → PyData → Prop
  | lot {d : PyData} : (isLot n d && decide (0 < (dInts d).length)) = false → BadK n many 0 d
  | things {d : PyData} : goodList n d = false → BadK n many 1 d
  | listed {d : PyData} : isBelow many d = false → BadK n many 2 d
  | other {d : PyData} : isBook d = false → (bRows d).length ≤ 500 → BadK n many 3 d
  | line {d : PyData} : isLine n d = false → BadK n many 4 d
  | here {d : PyData} : isBelow n d = false → BadK n many 6 d
  | tie {d : PyData} : (isLot n d && decide ((dInts d).length = 2)) = false → BadK n many 7 d
  | none {d : PyData} : BadK n many 5 d
  | pair1 {d e : PyData} : isBelow n d = false → BadK n many 8 (.tuple [d, e])
  | pair2 {i : Int} {e : PyData} : 0 ≤ i → i < n → isBelow n e = false → BadK n many 8 (.tuple [.int i, e])
  | pair3 {i : Int} : 0 ≤ i → i < n → BadK n many 8 (.tuple [.int i, .int i])
theorem rgD_ints (a b : Int) : (rgD a b).map toInt = (List.range (b - a).toNat).map fun i => a + ((i : Nat) : Int) := by
  unfold rgD
  rw [List.map_map]
  rfl
theorem notLine_list {n : Int} {l : List PyData} : isLine n (.list l) = false := by simp [isLine, areUnlike, areBelow]
theorem notLine_len {n : Int} {l : List PyData} (h : (l.length : Int) ≠ n) : isLine n (.tuple l) = false := by
  simp [isLine, dInts, h]
theorem notLine_at {n : Int} {l : List PyData} {d : PyData} (h : d ∈ l) (hb : isBelow n d = false) : isLine n (.tuple l) = false := by
  have : areBelow n (.tuple l) = false := by
    show l.all (isBelow n) = false
    rw [List.all_eq_false]
    exact ⟨d, h, by rw [hb]; simp⟩
  simp [isLine, areUnlike, this]
section
variable {P : Program} {w : World} {K : PySem.W.Frag} {mg : Str → Option Value} {base : Heap} {ad : Nat → Addr} {fd : Nat → FuncData}
def spBad (K : PySem.W.Frag) : Sp := fun vs H Q _ => ∃ (S p : Addr) (w : Int) (v : V) (n : Int) (rows : List (List Int)), vs = [.ref S, .int w, v] ∧ StOk H S p ∧ Rp K (hide S H) v (bookD n rows) ∧ 1 ≤ n ∧ n ≤ 45 ∧ rows.length ≤ 500 ∧
  (w = 0 ∨ w = 1 ∨ w = 2 ∨ w = 3 ∨ w = 4 ∨ w = 6 ∨ w = 7 ∨ w = 5 ∨ w = 8) ∧ ∀ v d H', BadK n rows.length w d → Mv S p H H' → Rp K (hide S H') v d → Q v H'
theorem ok__law_bad (T : Txt K mg ad fd) : FnOk P w K mg base CX0 2 (ad 65) (fd 65) ["_law_s", "_law_which", "_law_book"] (spBad K) := by
  refine T.F__law_bad.ok sc__law_bad (fun vs H Q E h => ?_) (fun cdv A outer s H vs Q E hr h => ?_)
  · obtain ⟨S, p, w, v, n, rows, rfl, _⟩ := h
    rfl
  · obtain ⟨S, p, w, v, n, rows, rfl, st, hv, n0, n1, hrw, hw, k⟩ := h
    refine ⟨_, (pss_cons (ps_set (i := 3) sc__law_bad.nd rfl (Or.inl rfl) (pe_ix (ixT K) (pv 2) pe_int (fun _ _ => rfl)))
  (pss_cons (ps_set (i := 4) sc__law_bad.nd rfl (Or.inl rfl) (pe_lst (pa_cons (pe_un un_neg pe_int) (pa_cons (pv 3) (pa_cons pe_non (pa_cons pe_bl (pa_cons pe_str (pa_cons (pe_tup (pa_cons pe_int pa_nil)) (pa_cons (pe_lst (pa_cons pe_int pa_nil)) pa_nil)))))))))
  (pss_cons (ps_set (i := 5) sc__law_bad.nd rfl (Or.inl rfl) (pe_lst (pa_cons (pe_tup (pa_cons pe_int (pa_cons pe_int pa_nil))) (pa_cons (pe_tup (pa_cons pe_int pa_nil)) (pa_cons (pe_tup pa_nil) (pa_cons (pe_lst (pa_cons pe_int (pa_cons pe_int pa_nil))) (pa_cons (pe_tup (pa_cons pe_int (pa_cons (pv 3) pa_nil))) (pa_cons (pe_tup (pa_cons pe_int (pa_cons pe_bl pa_nil))) (pa_cons (pe_tup (pa_cons pe_int (pa_cons pe_non pa_nil))) (pa_cons pe_non (pa_cons pe_int (pa_cons pe_str (pa_cons (pe_tup (pa_cons (pe_un un_neg pe_int) (pa_cons pe_int pa_nil))) (pa_cons (pe_tup (pa_cons (pe_tup (pa_cons pe_int pa_nil)) (pa_cons pe_int pa_nil))) pa_nil))))))))))))))
  (pss_cons (ps_if (pt_cmpR op_eq (pv 1) pe_int (nomark _)) (pss_one (ps_ret (pe_ix (ixL K) (pe_lst (pa_cons (pe_tup pa_nil) (pa_cons (pe_lst (pa_cons pe_int pa_nil)) (pa_cons (pe_tup (pa_cons pe_int (pa_cons pe_int pa_nil))) (pa_cons (pe_tup (pa_cons pe_int (pa_cons pe_int pa_nil))) (pa_cons (pe_tup (pa_cons (pv 3) pa_nil)) (pa_cons (pe_tup (pa_cons pe_bl pa_nil)) (pa_cons pe_non (pa_cons pe_int (pa_cons (pe_tup (pa_cons (pe_un un_neg pe_int) pa_nil)) (pa_cons (pe_tup (pa_cons pe_str pa_nil)) pa_nil))))))))))) (pe_call (ok__law_take T) (hr.mono (by decide)) rfl T.m__law_take T.F__law_take.kp (b__law_take T) .nil pass0 (pa_cons (pv 0) (pa_cons pe_int pa_nil))) (fun _ _ => rfl))))
  pss_nil)
  (pss_cons (ps_if (pt_cmpR op_eq (pv 1) pe_int (nomark _)) (pss_one (ps_ret (pe_ix (ixL K) (pv 5) (pe_call (ok__law_take T) (hr.mono (by decide)) rfl T.m__law_take T.F__law_take.kp (b__law_take T) .nil pass0 (pa_cons (pv 0) (pa_cons pe_int pa_nil))) (fun _ _ => rfl))))
  pss_nil)
  (pss_cons (ps_if (pt_cmpR op_eq (pv 1) pe_int (nomark _)) (pss_one (ps_ret (pe_ix (ixL K) (pe_lst (pa_cons (pe_un un_neg pe_int) (pa_cons (pe_callB (lenS K) (by rfl) T.g_len (by decide +kernel) (pa_cons (pe_ix (ixT K) (pv 2) pe_int (fun _ _ => rfl)) pa_nil)) (pa_cons pe_non (pa_cons pe_bl (pa_cons pe_str (pa_cons (pe_tup (pa_cons pe_int pa_nil)) (pa_cons (pe_lst (pa_cons pe_int pa_nil)) pa_nil)))))))) (pe_call (ok__law_take T) (hr.mono (by decide)) rfl T.m__law_take T.F__law_take.kp (b__law_take T) .nil pass0 (pa_cons (pv 0) (pa_cons pe_int pa_nil))) (fun _ _ => rfl))))
  pss_nil)
  (pss_cons (ps_if (pt_cmpR op_eq (pv 1) pe_int (nomark _)) (pss_cons (ps_set (i := 6) sc__law_bad.nd rfl (Or.inl rfl) (pe_lst (pa_cons pe_non (pa_cons (pe_lst (pa_cons pe_int (pa_cons (pe_tup pa_nil) pa_nil))) (pa_cons (pe_tup (pa_cons pe_int (pa_cons (pe_tup pa_nil) pa_nil))) (pa_cons (pe_tup (pa_cons pe_int pa_nil)) (pa_cons (pe_tup (pa_cons pe_int (pa_cons (pe_lst (pa_cons (pe_tup (pa_cons pe_int (pa_cons pe_int pa_nil))) pa_nil)) pa_nil))) (pa_cons (pe_tup (pa_cons pe_int (pa_cons (pe_tup (pa_cons (pe_tup (pa_cons pe_int (pa_cons pe_int pa_nil))) pa_nil)) pa_nil))) (pa_cons (pe_tup (pa_cons pe_int (pa_cons (pe_tup (pa_cons (pe_tup (pa_cons pe_int pa_nil)) pa_nil)) pa_nil))) (pa_cons (pe_tup (pa_cons pe_int (pa_cons (pe_tup (pa_cons (pe_tup (pa_cons pe_int (pa_cons pe_bl pa_nil))) pa_nil)) pa_nil))) (pa_cons (pe_tup (pa_cons pe_bl (pa_cons (pe_tup pa_nil) pa_nil))) pa_nil)))))))))))
  (pss_cons (ps_set (i := 6) sc__law_bad.nd rfl (Or.inl rfl) (pe_op (catL K) (pv 6) (pe_lst (pa_cons (pe_tup (pa_cons pe_int (pa_cons (pe_tup (pa_cons (pe_tup (pa_cons pe_int (pa_cons pe_int pa_nil))) pa_nil)) pa_nil))) (pa_cons (pe_tup (pa_cons pe_int (pa_cons (pe_tup pa_nil) (pa_cons (pe_tup pa_nil) pa_nil)))) (pa_cons pe_str (pa_cons (pe_tup (pa_cons pe_int (pa_cons (pe_tup (pa_cons (pe_tup (pa_cons pe_int (pa_cons pe_int pa_nil))) pa_nil)) pa_nil))) (pa_cons (pe_tup (pa_cons pe_int (pa_cons (pe_tup (pa_cons (pe_lst (pa_cons pe_int (pa_cons pe_int pa_nil))) pa_nil)) pa_nil))) (pa_cons (pe_tup (pa_cons pe_int (pa_cons (pe_tup (pa_cons (pe_tup (pa_cons pe_int (pa_cons pe_int pa_nil))) (pa_cons pe_int pa_nil))) pa_nil))) pa_nil)))))))))
  (pss_one (ps_ret (pe_ix (ixL K) (pv 6) (pe_call (ok__law_take T) (hr.mono (by decide)) rfl T.m__law_take T.F__law_take.kp (b__law_take T) .nil pass0 (pa_cons (pv 0) (pa_cons pe_int pa_nil))) (fun _ _ => rfl))))))
  pss_nil)
  (pss_cons (ps_if (pt_cmpR op_eq (pv 1) pe_int (nomark _)) (pss_cons (ps_set (i := 6) sc__law_bad.nd rfl (Or.inl rfl) (pe_lst (pa_cons (pe_tup pa_nil) (pa_cons (pe_listRg rfl rfl T.g_list (prg_1 rfl T.g_range (pv 3))) (pa_cons (pe_tupRg rfl rfl T.g_tuple (prg_1 rfl T.g_range (pe_op op_add (pv 3) pe_int))) (pa_cons (pe_tupRg rfl rfl T.g_tuple (prg_2 rfl T.g_range pe_int (pe_op op_add (pv 3) pe_int))) (pa_cons (pe_op (repT K) (pe_tup (pa_cons pe_int pa_nil)) (pe_op op_add (pv 3) pe_int)) (pa_cons pe_non pa_nil))))))))
  (pss_one (ps_ret (pe_ix (ixL K) (pe_op (catL K) (pv 6) (pe_lst (pa_cons (pe_op (catA K) (pe_tup (pa_cons pe_bl pa_nil)) (pe_tupRg rfl rfl T.g_tuple (prg_2 rfl T.g_range pe_int (pv 3)))) (pa_cons (pe_op (catA K) (pe_tup (pa_cons (pe_un un_neg pe_int) pa_nil)) (pe_tupRg rfl rfl T.g_tuple (prg_1 rfl T.g_range (pe_op op_sub (pv 3) pe_int)))) pa_nil)))) (pe_call (ok__law_take T) (hr.mono (by decide)) rfl T.m__law_take T.F__law_take.kp (b__law_take T) .nil pass0 (pa_cons (pv 0) (pa_cons pe_int pa_nil))) (fun _ _ => rfl)))))
  pss_nil)
  (pss_cons (ps_if (pt_cmpR op_eq (pv 1) pe_int (nomark _)) (pss_one (ps_ret (pe_ix (ixL K) (pv 4) (pe_call (ok__law_take T) (hr.mono (by decide)) rfl T.m__law_take T.F__law_take.kp (b__law_take T) .nil pass0 (pa_cons (pv 0) (pa_cons pe_int pa_nil))) (fun _ _ => rfl))))
  pss_nil)
  (pss_cons (ps_if (pt_cmpR op_eq (pv 1) pe_int (nomark _)) (pss_one (ps_ret (pe_ix (ixL K) (pe_lst (pa_cons (pe_tup (pa_cons pe_int (pa_cons pe_int pa_nil))) (pa_cons (pe_tup (pa_cons pe_int (pa_cons pe_int pa_nil))) (pa_cons (pe_tup (pa_cons pe_int (pa_cons (pv 3) pa_nil))) (pa_cons pe_non (pa_cons (pe_lst (pa_cons pe_int (pa_cons pe_int pa_nil))) (pa_cons (pe_tup (pa_cons pe_int pa_nil)) (pa_cons (pe_tup (pa_cons pe_int (pa_cons pe_bl pa_nil))) (pa_cons (pe_tup (pa_cons pe_int (pa_cons pe_int (pa_cons pe_int pa_nil)))) (pa_cons (pe_tup (pa_cons (pe_un un_neg pe_int) (pa_cons pe_int pa_nil))) (pa_cons pe_str (pa_cons pe_int pa_nil)))))))))))) (pe_call (ok__law_take T) (hr.mono (by decide)) rfl T.m__law_take T.F__law_take.kp (b__law_take T) .nil pass0 (pa_cons (pv 0) (pa_cons pe_int pa_nil))) (fun _ _ => rfl))))
  pss_nil)
  (pss_cons (ps_set (i := 6) sc__law_bad.nd rfl (Or.inl rfl) (pe_ix (ixL K) (pv 4) (pe_call (ok__law_take T) (hr.mono (by decide)) rfl T.m__law_take T.F__law_take.kp (b__law_take T) .nil pass0 (pa_cons (pv 0) (pa_cons pe_int pa_nil))) (fun _ _ => rfl)))
  (pss_cons (ps_set (i := 7) sc__law_bad.nd rfl (Or.inl rfl) (pe_call (ok__law_take T) (hr.mono (by decide)) rfl T.m__law_take T.F__law_take.kp (b__law_take T) .nil pass0 (pa_cons (pv 0) (pa_cons (pv 3) pa_nil))))
  (pss_one (ps_ret (pe_ix (ixL K) (pe_lst (pa_cons (pe_tup (pa_cons (pv 6) (pa_cons (pv 6) pa_nil))) (pa_cons (pe_tup (pa_cons (pv 7) (pa_cons (pv 6) pa_nil))) (pa_cons (pe_tup (pa_cons (pv 7) (pa_cons (pv 7) pa_nil))) pa_nil)))) (pe_call (ok__law_take T) (hr.mono (by decide)) rfl T.m__law_take T.F__law_take.kp (b__law_take T) .nil pass0 (pa_cons (pv 0) (pa_cons pe_int pa_nil))) (fun _ _ => rfl)))))))))))))))), ?_⟩
    obtain ⟨b, ws, rfl, hb, hzb, rb⟩ := (rp_show hv).tupA
    have rb0 := rb
    cases rb with
    | cons rb1 rb =>
    cases rb1
    cases rb with
    | cons rb2 rb =>
    cases rb
    refine ⟨_, rfl, b, _, _, _, rfl, rfl, hb, rfl, ?_⟩
    try dsimp only [gName, tSeq, tAsg, tRet]
    refine y_useL (S := S) (p := p) (K := K) (d := .list [.int (-1), .int n, PyData.none, .bool true, .str "0", .tuple [.int 0], .list [.int 0]]) (y_lst (ya_cons (y_neg y_int) (ya_cons (y_var rfl (.int n)) (ya_cons y_non (ya_cons y_bl (ya_cons y_str (ya_cons (y_tup (ya_cons y_int ya_nil)) (ya_cons (y_lst (ya_cons y_int ya_nil)) ya_nil)))))))) st fun v4 H1 m1 r4 => ?_
    try dsimp only [gName, tSeq, tAsg, tRet]
    refine y_useL (S := S) (p := p) (K := K) (d := .list [.tuple [.int 0, .int 0], .tuple [.int 0], .tuple [], .list [.int 0, .int 1], .tuple [.int 0, .int n], .tuple [.int 0, .bool true], .tuple [.int 1, PyData.none], PyData.none, .int 5, .str "01", .tuple [.int (-1), .int 0], .tuple [.tuple [.int 0], .int 1]]) (y_lst (ya_cons (y_tup (ya_cons y_int (ya_cons y_int ya_nil))) (ya_cons (y_tup (ya_cons y_int ya_nil)) (ya_cons (y_tup ya_nil) (ya_cons (y_lst (ya_cons y_int (ya_cons y_int ya_nil))) (ya_cons (y_tup (ya_cons y_int (ya_cons (y_var rfl (.int n)) ya_nil))) (ya_cons (y_tup (ya_cons y_int (ya_cons y_bl ya_nil))) (ya_cons (y_tup (ya_cons y_int (ya_cons y_non ya_nil))) (ya_cons y_non (ya_cons y_int (ya_cons y_str (ya_cons (y_tup (ya_cons (y_neg y_int) (ya_cons y_int ya_nil))) (ya_cons (y_tup (ya_cons (y_tup (ya_cons y_int ya_nil)) (ya_cons y_int ya_nil))) ya_nil))))))))))))) m1.ok fun v5 H2 m2 r5 => ?_
    have r4 := m2.rp r4
    have m12 := m1.trans m2
    have st2 := m12.ok
    have hv2 := m12.rp hv
    have k2 : ∀ v d H', BadK n rows.length w d → Mv S p H2 H' → Rp K (hide S H') v d → Q v H' := fun v d H' h m r => k v d H' h (m12.trans m) r
    clear k
    rcases hw with rfl | rfl | rfl | rfl | rfl | rfl | rfl | rfl | rfl
    · refine ⟨_, rfl, rfl, _, rfl, iteT ?_⟩
      try dsimp only [gName, tSeq, tAsg, tRet]
      refine y_draw (K := K) (S := S) (p := p) (y_lst (ya_cons (y_tup ya_nil) (ya_cons (y_lst (ya_cons y_int ya_nil)) (ya_cons (y_tup (ya_cons y_int (ya_cons y_int ya_nil))) (ya_cons (y_tup (ya_cons y_int (ya_cons y_int ya_nil))) (ya_cons (y_tup (ya_cons (y_var rfl (.int n)) ya_nil)) (ya_cons (y_tup (ya_cons y_bl ya_nil)) (ya_cons y_non (ya_cons y_int (ya_cons (y_tup (ya_cons (y_neg y_int) ya_nil)) (ya_cons (y_tup (ya_cons y_str ya_nil)) ya_nil))))))))))) st2 (fun H3 Q1 m3 k3 => ⟨_, rfl, S, p, 10, rfl, m3.ok, by decide, by decide, fun r H4 r0 r1 m4 => k3 r H4 r0 (by simpa using r1) m4⟩) fun v d H' hd m r => k2 v d H' (.lot ?_) m r
      simp only [List.mem_cons, List.not_mem_nil, or_false] at hd
      rcases hd with rfl | rfl | rfl | rfl | rfl | rfl | rfl | rfl | rfl | rfl <;> first | (simp [isLot, areBelow, isBelow, dInts, rising, toInt, goodList, areUnlike, isBook, isListed, isLine]; done) | (simp [isLot, areBelow, isBelow, dInts, rising, toInt, goodList, areUnlike, isBook, isListed, isLine]; omega)
    · refine ⟨_, rfl, rfl, _, rfl, iteF ⟨_, rfl, rfl, _, rfl, iteT ?_⟩⟩
      try dsimp only [gName, tSeq, tAsg, tRet]
      refine y_draw (K := K) (S := S) (p := p) (y_var rfl r5) st2 (fun H3 Q1 m3 k3 => ⟨_, rfl, S, p, 12, rfl, m3.ok, by decide, by decide, fun r H4 r0 r1 m4 => k3 r H4 r0 (by simpa using r1) m4⟩) fun v d H' hd m r => k2 v d H' (.things ?_) m r
      simp only [List.mem_cons, List.not_mem_nil, or_false] at hd
      rcases hd with rfl | rfl | rfl | rfl | rfl | rfl | rfl | rfl | rfl | rfl | rfl | rfl <;> first | (simp [isLot, areBelow, isBelow, dInts, rising, toInt, goodList, areUnlike, isBook, isListed, isLine]; done) | (simp [isLot, areBelow, isBelow, dInts, rising, toInt, goodList, areUnlike, isBook, isListed, isLine]; omega)
    · refine ⟨_, rfl, rfl, _, rfl, iteF ⟨_, rfl, rfl, _, rfl, iteF ⟨_, rfl, rfl, _, rfl, iteT ?_⟩⟩⟩
      try dsimp only [gName, tSeq, tAsg, tRet]
      refine y_draw (K := K) (S := S) (p := p) (y_lst (ya_cons (y_neg y_int) (ya_cons (y_lenT (y_ixT (j := 1) (y_var rfl hv2) y_int rfl)) (ya_cons y_non (ya_cons y_bl (ya_cons y_str (ya_cons (y_tup (ya_cons y_int ya_nil)) (ya_cons (y_lst (ya_cons y_int ya_nil)) ya_nil)))))))) st2 (fun H3 Q1 m3 k3 => ⟨_, rfl, S, p, 7, rfl, m3.ok, by decide, by decide, fun r H4 r0 r1 m4 => k3 r H4 r0 (by simpa using r1) m4⟩) fun v d H' hd m r => k2 v d H' (.listed ?_) m r
      simp only [List.mem_cons, List.not_mem_nil, or_false] at hd
      rcases hd with rfl | rfl | rfl | rfl | rfl | rfl | rfl <;> first | (simp [isLot, areBelow, isBelow, dInts, rising, toInt, goodList, areUnlike, isBook, isListed, isLine]; done) | (simp [isLot, areBelow, isBelow, dInts, rising, toInt, goodList, areUnlike, isBook, isListed, isLine]; omega)
    · refine ⟨_, rfl, rfl, _, rfl, iteF ⟨_, rfl, rfl, _, rfl, iteF ⟨_, rfl, rfl, _, rfl, iteF ⟨_, rfl, rfl, _, rfl, iteT ?_⟩⟩⟩⟩
      try dsimp only [gName, tSeq, tAsg, tRet]
      refine y_useL (S := S) (p := p) (K := K) (y_lst (ya_cons y_non (ya_cons (y_lst (ya_cons y_int (ya_cons (y_tup ya_nil) ya_nil))) (ya_cons (y_tup (ya_cons y_int (ya_cons (y_tup ya_nil) ya_nil))) (ya_cons (y_tup (ya_cons y_int ya_nil)) (ya_cons (y_tup (ya_cons y_int (ya_cons (y_lst (ya_cons (y_tup (ya_cons y_int (ya_cons y_int ya_nil))) ya_nil)) ya_nil))) (ya_cons (y_tup (ya_cons y_int (ya_cons (y_tup (ya_cons (y_tup (ya_cons y_int (ya_cons y_int ya_nil))) ya_nil)) ya_nil))) (ya_cons (y_tup (ya_cons y_int (ya_cons (y_tup (ya_cons (y_tup (ya_cons y_int ya_nil)) ya_nil)) ya_nil))) (ya_cons (y_tup (ya_cons y_int (ya_cons (y_tup (ya_cons (y_tup (ya_cons y_int (ya_cons y_bl ya_nil))) ya_nil)) ya_nil))) (ya_cons (y_tup (ya_cons y_bl (ya_cons (y_tup ya_nil) ya_nil))) ya_nil)))))))))) st2 fun v6 H6 m6 r6 => ?_
      try dsimp only [gName, tSeq, tAsg, tRet]
      refine y_useO (S := S) (p := p) (K := K) (y_catL (y_var rfl r6) (y_lst (ya_cons (y_tup (ya_cons y_int (ya_cons (y_tup (ya_cons (y_tup (ya_cons y_int (ya_cons y_int ya_nil))) ya_nil)) ya_nil))) (ya_cons (y_tup (ya_cons y_int (ya_cons (y_tup ya_nil) (ya_cons (y_tup ya_nil) ya_nil)))) (ya_cons y_str (ya_cons (y_tup (ya_cons y_int (ya_cons (y_tup (ya_cons (y_tup (ya_cons y_int (ya_cons y_int ya_nil))) ya_nil)) ya_nil))) (ya_cons (y_tup (ya_cons y_int (ya_cons (y_tup (ya_cons (y_lst (ya_cons y_int (ya_cons y_int ya_nil))) ya_nil)) ya_nil))) (ya_cons (y_tup (ya_cons y_int (ya_cons (y_tup (ya_cons (y_tup (ya_cons y_int (ya_cons y_int ya_nil))) (ya_cons y_int ya_nil))) ya_nil))) ya_nil))))))) (by decide)) m6.ok fun v7 H7 m7 r7 => ?_
      try dsimp only [gName, tSeq, tAsg, tRet]
      refine y_draw (K := K) (S := S) (p := p) (y_var rfl r7) m7.ok (fun H3 Q1 m3 k3 => ⟨_, rfl, S, p, 15, rfl, m3.ok, by decide, by decide, fun r H4 r0 r1 m4 => k3 r H4 r0 (by simpa using r1) m4⟩) fun v d H' hd m r => k2 v d H' ?_ ((m6.trans m7).trans m) r
      simp only [List.cons_append, List.nil_append, List.mem_cons, List.not_mem_nil, or_false] at hd
      rcases hd with rfl | rfl | rfl | rfl | rfl | rfl | rfl | rfl | rfl | rfl | rfl | rfl | rfl | rfl | rfl <;> exact .other rfl (Nat.le_of_ble_eq_true rfl)
    · refine ⟨_, rfl, rfl, _, rfl, iteF ⟨_, rfl, rfl, _, rfl, iteF ⟨_, rfl, rfl, _, rfl, iteF ⟨_, rfl, rfl, _, rfl, iteF ⟨_, rfl, rfl, _, rfl, iteT ?_⟩⟩⟩⟩⟩
      try dsimp only [gName, tSeq, tAsg, tRet]
      refine y_useL (S := S) (p := p) (K := K) (y_lst (ya_cons (y_tup ya_nil) (ya_cons (y_rg1L (y_var rfl (.int n)) (by omega)) (ya_cons (y_rg1T (y_add (y_var rfl (.int n)) y_int) (by omega)) (ya_cons (y_rg2T y_int (y_add (y_var rfl (.int n)) y_int) (by omega)) (ya_cons (y_repT (y_tup (ya_cons y_int ya_nil)) (y_add (y_var rfl (.int n)) y_int) ⟨rfl, by omega, by omega⟩) (ya_cons y_non ya_nil))))))) st2 fun v6 H6 m6 r6 => ?_
      try dsimp only [gName, tSeq, tAsg, tRet]
      refine y_draw (K := K) (S := S) (p := p) (y_catL (y_var rfl r6) (y_lst (ya_cons (y_catT (y_tup (ya_cons y_bl ya_nil)) (y_rg2T y_int (y_var rfl (.int n)) (by omega)) (by rw [rgD_length]; simp; omega)) (ya_cons (y_catT (y_tup (ya_cons (y_neg y_int) ya_nil)) (y_rg1T (y_sub (y_var rfl (.int n)) y_int) (by omega)) (by rw [rgD_length]; simp; omega)) ya_nil))) (by simp)) m6.ok (fun H3 Q1 m3 k3 => ⟨_, rfl, S, p, 8, rfl, m3.ok, by decide, by decide, fun r H4 r0 r1 m4 => k3 r H4 r0 (by simpa using r1) m4⟩) fun v d H' hd m r => k2 v d H' (.line ?_) (m6.trans m) r
      simp only [List.cons_append, List.nil_append, List.mem_cons, List.not_mem_nil, or_false] at hd
      rcases hd with rfl | rfl | rfl | rfl | rfl | rfl | rfl | rfl
      · exact notLine_len (by simp; omega)
      · exact notLine_list
      · exact notLine_len (by rw [rgD_length]; omega)
      · refine notLine_at (d := .int n) ?_ (by simp [isBelow])
        unfold rgD
        exact List.mem_map.mpr ⟨(n - 1).toNat, List.mem_range.mpr (by omega), by congr 1; omega⟩
      · exact notLine_len (by simp; omega)
      · rfl
      · exact notLine_at (d := .bool false) (by simp) rfl
      · exact notLine_at (d := .int (-1)) (by simp) (by simp [isBelow])
    · refine ⟨_, rfl, rfl, _, rfl, iteF ⟨_, rfl, rfl, _, rfl, iteF ⟨_, rfl, rfl, _, rfl, iteF ⟨_, rfl, rfl, _, rfl, iteF ⟨_, rfl, rfl, _, rfl, iteF ⟨_, rfl, rfl, _, rfl, iteT ?_⟩⟩⟩⟩⟩⟩
      try dsimp only [gName, tSeq, tAsg, tRet]
      refine y_draw (K := K) (S := S) (p := p) (y_var rfl r4) st2 (fun H3 Q1 m3 k3 => ⟨_, rfl, S, p, 7, rfl, m3.ok, by decide, by decide, fun r H4 r0 r1 m4 => k3 r H4 r0 (by simpa using r1) m4⟩) fun v d H' hd m r => k2 v d H' (.here ?_) m r
      simp only [List.mem_cons, List.not_mem_nil, or_false] at hd
      rcases hd with rfl | rfl | rfl | rfl | rfl | rfl | rfl <;> first | (simp [isLot, areBelow, isBelow, dInts, rising, toInt, goodList, areUnlike, isBook, isListed, isLine]; done) | (simp [isLot, areBelow, isBelow, dInts, rising, toInt, goodList, areUnlike, isBook, isListed, isLine]; omega)
    · refine ⟨_, rfl, rfl, _, rfl, iteF ⟨_, rfl, rfl, _, rfl, iteF ⟨_, rfl, rfl, _, rfl, iteF ⟨_, rfl, rfl, _, rfl, iteF ⟨_, rfl, rfl, _, rfl, iteF ⟨_, rfl, rfl, _, rfl, iteF ⟨_, rfl, rfl, _, rfl, iteT ?_⟩⟩⟩⟩⟩⟩⟩
      try dsimp only [gName, tSeq, tAsg, tRet]
      refine y_draw (K := K) (S := S) (p := p) (y_lst (ya_cons (y_tup (ya_cons y_int (ya_cons y_int ya_nil))) (ya_cons (y_tup (ya_cons y_int (ya_cons y_int ya_nil))) (ya_cons (y_tup (ya_cons y_int (ya_cons (y_var rfl (.int n)) ya_nil))) (ya_cons y_non (ya_cons (y_lst (ya_cons y_int (ya_cons y_int ya_nil))) (ya_cons (y_tup (ya_cons y_int ya_nil)) (ya_cons (y_tup (ya_cons y_int (ya_cons y_bl ya_nil))) (ya_cons (y_tup (ya_cons y_int (ya_cons y_int (ya_cons y_int ya_nil)))) (ya_cons (y_tup (ya_cons (y_neg y_int) (ya_cons y_int ya_nil))) (ya_cons y_str (ya_cons y_int ya_nil)))))))))))) st2 (fun H3 Q1 m3 k3 => ⟨_, rfl, S, p, 11, rfl, m3.ok, by decide, by decide, fun r H4 r0 r1 m4 => k3 r H4 r0 (by simpa using r1) m4⟩) fun v d H' hd m r => k2 v d H' (.tie ?_) m r
      simp only [List.mem_cons, List.not_mem_nil, or_false] at hd
      rcases hd with rfl | rfl | rfl | rfl | rfl | rfl | rfl | rfl | rfl | rfl | rfl <;> first | (simp [isLot, areBelow, isBelow, dInts, rising, toInt, goodList, areUnlike, isBook, isListed, isLine]; done) | (simp [isLot, areBelow, isBelow, dInts, rising, toInt, goodList, areUnlike, isBook, isListed, isLine]; omega)
    · refine ⟨_, rfl, rfl, _, rfl, iteF ⟨_, rfl, rfl, _, rfl, iteF ⟨_, rfl, rfl, _, rfl, iteF ⟨_, rfl, rfl, _, rfl, iteF ⟨_, rfl, rfl, _, rfl, iteF ⟨_, rfl, rfl, _, rfl, iteF ⟨_, rfl, rfl, _, rfl, iteF ?_⟩⟩⟩⟩⟩⟩⟩
      dsimp only [tNoPart]
      try dsimp only [gName, tSeq, tAsg, tRet]
      refine y_draw (K := K) (S := S) (p := p) (y_var rfl r4) st2 (fun H3 Q1 m3 k3 => ⟨_, rfl, S, p, 7, rfl, m3.ok, by decide, by decide, fun r H4 r0 r1 m4 => k3 r H4 r0 (by simpa using r1) m4⟩) fun v6 d6 H6 hd6 m6 r6 => ?_
      have b6 : isBelow n d6 = false := by
        simp only [List.mem_cons, List.not_mem_nil, or_false] at hd6
        rcases hd6 with rfl | rfl | rfl | rfl | rfl | rfl | rfl <;> simp [isBelow]
      refine ⟨_, rfl, _, rfl, S, p, n, rfl, m6.ok, by omega, by omega, fun z H7 z0 z1 m7 => ?_⟩
      have r6 := m7.rp r6
      try dsimp only [gName, tSeq, tAsg, tRet]
      refine y_draw (K := K) (S := S) (p := p) (y_lst (ya_cons (y_tup (ya_cons (y_var rfl r6) (ya_cons (y_var rfl r6) ya_nil))) (ya_cons (y_tup (ya_cons (y_var rfl (.int z)) (ya_cons (y_var rfl r6) ya_nil))) (ya_cons (y_tup (ya_cons (y_var rfl (.int z)) (ya_cons (y_var rfl (.int z)) ya_nil))) ya_nil)))) m7.ok (fun H3 Q1 m3 k3 => ⟨_, rfl, S, p, 3, rfl, m3.ok, by decide, by decide, fun r H4 r0 r1 m4 => k3 r H4 r0 (by simpa using r1) m4⟩) fun v d H' hd m r => k2 v d H' ?_ ((m6.trans m7).trans m) r
      exact .none
    · refine ⟨_, rfl, rfl, _, rfl, iteF ⟨_, rfl, rfl, _, rfl, iteF ⟨_, rfl, rfl, _, rfl, iteF ⟨_, rfl, rfl, _, rfl, iteF ⟨_, rfl, rfl, _, rfl, iteF ⟨_, rfl, rfl, _, rfl, iteF ⟨_, rfl, rfl, _, rfl, iteF ?_⟩⟩⟩⟩⟩⟩⟩
      dsimp only [tNoPart]
      try dsimp only [gName, tSeq, tAsg, tRet]
      refine y_draw (K := K) (S := S) (p := p) (y_var rfl r4) st2 (fun H3 Q1 m3 k3 => ⟨_, rfl, S, p, 7, rfl, m3.ok, by decide, by decide, fun r H4 r0 r1 m4 => k3 r H4 r0 (by simpa using r1) m4⟩) fun v6 d6 H6 hd6 m6 r6 => ?_
      have b6 : isBelow n d6 = false := by
        simp only [List.mem_cons, List.not_mem_nil, or_false] at hd6
        rcases hd6 with rfl | rfl | rfl | rfl | rfl | rfl | rfl <;> simp [isBelow]
      refine ⟨_, rfl, _, rfl, S, p, n, rfl, m6.ok, by omega, by omega, fun z H7 z0 z1 m7 => ?_⟩
      have r6 := m7.rp r6
      try dsimp only [gName, tSeq, tAsg, tRet]
      refine y_draw (K := K) (S := S) (p := p) (y_lst (ya_cons (y_tup (ya_cons (y_var rfl r6) (ya_cons (y_var rfl r6) ya_nil))) (ya_cons (y_tup (ya_cons (y_var rfl (.int z)) (ya_cons (y_var rfl r6) ya_nil))) (ya_cons (y_tup (ya_cons (y_var rfl (.int z)) (ya_cons (y_var rfl (.int z)) ya_nil))) ya_nil)))) m7.ok (fun H3 Q1 m3 k3 => ⟨_, rfl, S, p, 3, rfl, m3.ok, by decide, by decide, fun r H4 r0 r1 m4 => k3 r H4 r0 (by simpa using r1) m4⟩) fun v d H' hd m r => k2 v d H' ?_ ((m6.trans m7).trans m) r
      simp only [List.mem_cons, List.not_mem_nil, or_false] at hd
      rcases hd with rfl | rfl | rfl
      · exact .pair1 b6
      · exact .pair2 z0 z1 b6
      · exact .pair3 z0 z1
end
end LK
namespace LK
open PySem PySem.Spec PyProof.Rows L2 StX
section
variable {X : Cx} {CX : CXT} {k : Nat} {f : Addr} {sp : Sp} {E : L2.St → XK} {x : Str} {p pos : Pos} {e : Expr} {es : List Expr} {t : TA}
theorem pe_callRRS (F : FnR X.prog X.w X.K X.mg X.base CX k f sp) (hr : Room k X.A) (hg : Gl X x) (hm : X.mg x = some (.ref f)) (hk : PySem.W.keepIn X.K (.ref f) = true) (hx : ∀ σ, PassesAt CX X σ (E σ)) (ha : PA X (e :: es) t) (hdb : (x == ("__debug__" : Str)) = false := by decide)
    (he : starEach (e :: es) X.env = (false, eval e X.env) :: starEach es X.env := by rfl) (hpl : (backTo pos (starEach es X.env)).any (·.1) = false := by rfl) :
    PE X (.Call (.Name x p) (e :: es) [] pos) (tCallS sp E t) := by
  refine ⟨fun pins s σ H Q I h => ?_⟩
  refine wpAny_Call_Name_kw (ld_glob I hg hm ?_ hdb)
  refine PySem.W.callWith_K (h₀ := X.base) I.ok.mod.kin hk (thn (ha.run pos pins s σ H _ I h) fun us s1 ⟨vs, H1, I1, r, q⟩ => ⟨I1.kIn, ?_⟩) he hpl
  refine wpAny_call (codeAny_mono (F X.A X.stack s1 H1 us vs Q (E σ) hr I1.env0 r q) fun r s' hq => ?_)
  cases r with
  | error e => exact hx σ pins H1 s1 e s' I1 hq
  | ok fl =>
    cases fl with
    | ret u => exact I1.after hq
    | next => exact False.elim hq
    | brk => exact False.elim hq
    | cont => exact False.elim hq
end
/-- what is refused, with what word and place -/
inductive AskK (K : PySem.W.Frag) (C : Addr) (H : Hp) : Int → V → V → Str → Int → Prop
  | deed {w : Int} {v u : V} {word : Str} {place : Int} : w < 9 → (∀ Q E, Rz C E H word place → DoSp K C w v u H Q E) → AskK K C H w v u word place
  | size {v u : V} {d : PyData} : Rp K H u d → (isInteger d && decide (1 ≤ toInt d)) = false → AskK K C H 9 v u "size" (-1)
  | list0 {v u : V} {d : PyData} : Rp K H u d → goodList 3 d = false → AskK K C H 10 v u "lists" 0
  | list1 {v u : V} {d : PyData} : Rp K H u d → goodList 3 d = false → AskK K C H 11 v u "lists" 1
  | list3 {v u : V} {d : PyData} : Rp K H u d → goodList 3 d = false → AskK K C H 12 v u "lists" 3
section
variable {P : Program} {w : World} {K : PySem.W.Frag} {mg : Str → Option Value} {base : Heap} {ad : Nat → Addr} {fd : Nat → FuncData}
def spAsk (K : PySem.W.Frag) (C : Addr) : Sp := fun vs H Q _ => ∃ (w : Int) (v u : V) (nm : Bool) (word : Str) (place : Int), vs = [.int w, v, u, .bl nm] ∧ AskK K C H w v u word place ∧
  ∀ z H', Same H H' → Rp K H' z (.tuple [.str word, .int place]) → Q z H'
theorem ok__law_ask (T : Txt K mg ad fd) : FnOk P w K mg base CX0 11 (ad 64) (fd 64) ["_law_which", "_law_book", "_law_one", "_law_named"] (spAsk K (ad 21)) := by
  refine T.F__law_ask.ok sc__law_ask (fun vs H Q E h => ?_) (fun cdv A outer s H vs Q E hr h => ?_)
  · obtain ⟨w, v, u, nm, word, place, rfl, _⟩ := h
    rfl
  · obtain ⟨w, v, u, nm, word, place, rfl, hk, k⟩ := h
    refine ⟨_, (pss_cons (ps_try_as (i := 4) (Wout := fun _ _ _ _ => False) rfl rfl sc__law_ask.nd rfl rfl ⟨rfl, by decide, Or.inl T.m_NotUsable⟩ takes0
  (fun W pn xe tk _ => (pss_one (ps_if (pt_cmpR op_lt (pv 0) pe_int (nomark _)) (pss_one (ps_expr (pe_callS (ok__law_do T) (hr.mono (by decide)) rfl T.m__law_do T.F__law_do.kp (b__law_do T) (fun σ => passAt tk σ) (pa_cons (pv 0) (pa_cons (pv 1) (pa_cons (pv 2) (pa_cons (pv 3) pa_nil)))))))
  (pss_one (ps_if (pt_cmpR op_eq (pv 0) pe_int (nomark _)) (pss_one (ps_expr (pe_callRRS (ok_book_of T) (hr.mono (by decide)) rfl T.m_book_of T.F_book_of.kp (fun σ => passAt tk σ) (pa_cons (pv 2) (pa_cons (pe_tup (pa_cons pe_int (pa_cons pe_bl pa_nil))) pa_nil)))))
  (pss_one (ps_if (pt_cmpR op_eq (pv 0) pe_int (nomark _)) (pss_one (ps_expr (pe_callRRS (ok_book_of T) (hr.mono (by decide)) rfl T.m_book_of T.F_book_of.kp (fun σ => passAt tk σ) (pa_cons pe_int (pa_cons (pv 2) (pa_cons (pe_tup (pa_cons pe_int (pa_cons pe_int pa_nil))) pa_nil))))))
  (pss_one (ps_if (pt_cmpR op_eq (pv 0) pe_int (nomark _)) (pss_one (ps_expr (pe_callRRS (ok_book_of T) (hr.mono (by decide)) rfl T.m_book_of T.F_book_of.kp (fun σ => passAt tk σ) (pa_cons pe_int (pa_cons (pe_tup (pa_cons pe_int (pa_cons pe_int pa_nil))) (pa_cons (pv 2) (pa_cons pe_non pa_nil)))))))
  (pss_one (ps_expr (pe_callRRS (ok_book_of T) (hr.mono (by decide)) rfl T.m_book_of T.F_book_of.kp (fun σ => passAt tk σ) (pa_cons pe_int (pa_cons (pe_tup (pa_cons pe_int (pa_cons pe_int (pa_cons pe_int pa_nil)))) (pa_cons (pe_tup (pa_cons pe_int (pa_cons pe_int pa_nil))) (pa_cons (pe_tup (pa_cons pe_int (pa_cons pe_int pa_nil))) (pa_cons (pv 2) pa_nil)))))))))))))))))
  (fun a oe cls d pn hz hf => (pss_one (ps_ret (pe_tup (pa_cons (pe_xf T.x_NotUsable T.n_NotUsable_word hz hf (pv 4)) (pa_cons (pe_xf T.x_NotUsable T.n_NotUsable_at hz hf (pv 4)) pa_nil)))))))
  (pss_one (ps_ret (pe_tup (pa_cons pe_str (pa_cons pe_int pa_nil)))))), ?_⟩
    cases hk with
    | deed hw h =>
      refine ⟨_, rfl, _, _, rfl, rfl, _, rfl, ?_⟩
      rw [decide_eq_true hw]
      refine iteT ⟨_, rfl, _, rfl, _, rfl, _, rfl, w, v, u, nm, rfl, h _ _ fun d H' s hd => ⟨true, T.e_NotUsable, fun _ a ha => ?_, fun q => Bool.noConfusion q⟩⟩
      refine ⟨_, rfl, rfl, rfl, d, _, _, rfl, hd, rfl, _, rfl, rfl, rfl, d, _, _, rfl, hd, rfl, (by show 2 ≤ sizeLine; decide), fun t ht => ?_⟩
      exact k _ _ (s.trans (same_upd ht)) (.tup (SqT.of upd_same) (by show 2 ≤ 1000; decide) (.two (.str _) (.int _)))
    | @size v u d hu hb =>
      refine ⟨_, rfl, _, _, rfl, rfl, _, rfl, iteF ⟨_, rfl, rfl, _, rfl, iteT ?_⟩⟩
      refine ⟨_, rfl, (by show 2 ≤ sizeLine; decide), fun q hq => ?_⟩
      have s1 := same_upd (o := .tup [V.int 0, V.bl true]) hq
      have rq : Rp K (upd H q (.tup [V.int 0, V.bl true])) (.ref q) (.tuple [.int 0, .bool true]) := .tup (SqT.of upd_same) (by show 2 ≤ 1000; decide) (.two (.int _) (.bl _))
      refine ⟨u, [.ref q], d, [_], rfl, hu.same s1, by show 1 ≤ 1000; decide, .one rq, ?_⟩
      have e : bookOfX d [.tuple [.int 0, .bool true]] = .error ("size", -1) := by
        unfold bookOfX
        rw [hb]
        rfl
      rw [e]
      exact fun d H' s hd => ⟨true, T.e_NotUsable, fun _ a ha => ⟨_, rfl, rfl, rfl, d, _, _, rfl, hd, rfl, _, rfl, rfl, rfl, d, _, _, rfl, hd, rfl, (by show 2 ≤ sizeLine; decide), fun t ht => k _ _ ((s1.trans s).trans (same_upd ht)) (.tup (SqT.of upd_same) (by show 2 ≤ 1000; decide) (.two (.str _) (.int _)))⟩, fun q => Bool.noConfusion q⟩
    | @list0 v u d hu hb =>
      refine ⟨_, rfl, _, _, rfl, rfl, _, rfl, iteF ⟨_, rfl, rfl, _, rfl, iteF ⟨_, rfl, rfl, _, rfl, iteT ?_⟩⟩⟩
      refine ⟨_, rfl, (by show 2 ≤ sizeLine; decide), fun q hq => ?_⟩
      have s1 := same_upd (o := .tup [V.int 0, V.int 3]) hq
      have rq : Rp K (upd H q (.tup [V.int 0, V.int 3])) (.ref q) (.tuple [.int 0, .int 3]) := .tup (SqT.of upd_same) (by show 2 ≤ 1000; decide) (.two (.int _) (.int _))
      refine ⟨.int 3, [u, .ref q], .int 3, [_, _], rfl, .int 3, by show 2 ≤ 1000; decide, .two (hu.same s1) rq, ?_⟩
      have e : bookOfX (.int 3) [d, .tuple [.int 0, .int 3]] = .error ("lists", 0) := by
        have e2 : List.findIdx? (fun l => !goodList 3 l) [d, .tuple [.int 0, .int 3]] = some 0 := by
          rw [List.findIdx?_cons, hb]
          rfl
        show (match List.findIdx? (fun l => !goodList 3 l) [d, .tuple [.int 0, .int 3]] with | some k => _ | none => _) = _
        rw [e2]
        rfl
      rw [e]
      exact fun d H' s hd => ⟨true, T.e_NotUsable, fun _ a ha => ⟨_, rfl, rfl, rfl, d, _, _, rfl, hd, rfl, _, rfl, rfl, rfl, d, _, _, rfl, hd, rfl, (by show 2 ≤ sizeLine; decide), fun t ht => k _ _ ((s1.trans s).trans (same_upd ht)) (.tup (SqT.of upd_same) (by show 2 ≤ 1000; decide) (.two (.str _) (.int _)))⟩, fun q => Bool.noConfusion q⟩
    | @list1 v u d hu hb =>
      refine ⟨_, rfl, _, _, rfl, rfl, _, rfl, iteF ⟨_, rfl, rfl, _, rfl, iteF ⟨_, rfl, rfl, _, rfl, iteF ⟨_, rfl, rfl, _, rfl, iteT ?_⟩⟩⟩⟩
      refine ⟨(by show 2 ≤ sizeLine; decide), fun q hq => ?_⟩
      have s1 := same_upd (o := .tup [V.int 2, V.int 0]) hq
      have rq : Rp K (upd H q (.tup [V.int 2, V.int 0])) (.ref q) (.tuple [.int 2, .int 0]) := .tup (SqT.of upd_same) (by show 2 ≤ 1000; decide) (.two (.int _) (.int _))
      refine ⟨_, rfl, .int 3, [.ref q, u, .non], .int 3, [_, _, _], rfl, .int 3, by show 3 ≤ 1000; decide, .cons rq (.cons (hu.same s1) (.one .non)), ?_⟩
      have e : bookOfX (.int 3) [.tuple [.int 2, .int 0], d, .none] = .error ("lists", 1) := by
        have e2 : List.findIdx? (fun l => !goodList 3 l) [.tuple [.int 2, .int 0], d, .none] = some 1 := by
          rw [List.findIdx?_cons, show goodList 3 (.tuple [.int 2, .int 0]) = true by decide, List.findIdx?_cons, hb]
          rfl
        show (match List.findIdx? (fun l => !goodList 3 l) [.tuple [.int 2, .int 0], d, .none] with | some k => _ | none => _) = _
        rw [e2]
        rfl
      rw [e]
      exact fun d H' s hd => ⟨true, T.e_NotUsable, fun _ a ha => ⟨_, rfl, rfl, rfl, d, _, _, rfl, hd, rfl, _, rfl, rfl, rfl, d, _, _, rfl, hd, rfl, (by show 2 ≤ sizeLine; decide), fun t ht => k _ _ ((s1.trans s).trans (same_upd ht)) (.tup (SqT.of upd_same) (by show 2 ≤ 1000; decide) (.two (.str _) (.int _)))⟩, fun q => Bool.noConfusion q⟩
    | @list3 v u d hu hb =>
      refine ⟨_, rfl, _, _, rfl, rfl, _, rfl, iteF ⟨_, rfl, rfl, _, rfl, iteF ⟨_, rfl, rfl, _, rfl, iteF ⟨_, rfl, rfl, _, rfl, iteF ?_⟩⟩⟩⟩
      refine ⟨(by show 3 ≤ sizeLine; decide), fun q hq => ⟨(by show 2 ≤ sizeLine; decide), fun q2 hq2 => ⟨(by show 2 ≤ sizeLine; decide), fun q3 hq3 => ?_⟩⟩⟩
      have sa := same_upd (o := .tup [V.int 2, V.int 1, V.int 0]) hq
      have sb := same_upd (o := .tup [V.int 0, V.int 2]) hq2
      have sc := same_upd (o := .tup [V.int 0, V.int 1]) hq3
      have s1 := sa.trans (sb.trans sc)
      have ra : Rp K (upd H q (.tup [V.int 2, V.int 1, V.int 0])) (.ref q) (.tuple [.int 2, .int 1, .int 0]) := .tup (SqT.of upd_same) (by show 3 ≤ 1000; decide) (.cons (.int _) (.two (.int _) (.int _)))
      have rb : Rp K (upd (upd H q (.tup [V.int 2, V.int 1, V.int 0])) q2 (.tup [V.int 0, V.int 2])) (.ref q2) (.tuple [.int 0, .int 2]) := .tup (SqT.of upd_same) (by show 2 ≤ 1000; decide) (.two (.int _) (.int _))
      have rc : Rp K (upd (upd (upd H q (.tup [V.int 2, V.int 1, V.int 0])) q2 (.tup [V.int 0, V.int 2])) q3 (.tup [V.int 0, V.int 1])) (.ref q3) (.tuple [.int 0, .int 1]) := .tup (SqT.of upd_same) (by show 2 ≤ 1000; decide) (.two (.int _) (.int _))
      refine ⟨_, rfl, .int 3, [.ref q, .ref q2, .ref q3, u], .int 3, [_, _, _, _], rfl, .int 3, by show 4 ≤ 1000; decide, .cons (ra.same (sb.trans sc)) (.cons (rb.same sc) (.cons rc (.one (hu.same s1)))), ?_⟩
      have e : bookOfX (.int 3) [.tuple [.int 2, .int 1, .int 0], .tuple [.int 0, .int 2], .tuple [.int 0, .int 1], d] = .error ("lists", 3) := by
        have e2 : List.findIdx? (fun l => !goodList 3 l) [.tuple [.int 2, .int 1, .int 0], .tuple [.int 0, .int 2], .tuple [.int 0, .int 1], d] = some 3 := by
          rw [List.findIdx?_cons, show goodList 3 (.tuple [.int 2, .int 1, .int 0]) = true by decide, List.findIdx?_cons, show goodList 3 (.tuple [.int 0, .int 2]) = true by decide, List.findIdx?_cons, show goodList 3 (.tuple [.int 0, .int 1]) = true by decide, List.findIdx?_cons, hb]
          rfl
        show (match List.findIdx? (fun l => !goodList 3 l) [.tuple [.int 2, .int 1, .int 0], .tuple [.int 0, .int 2], .tuple [.int 0, .int 1], d] with | some k => _ | none => _) = _
        rw [e2]
        rfl
      rw [e]
      exact fun d H' s hd => ⟨true, T.e_NotUsable, fun _ a ha => ⟨_, rfl, rfl, rfl, d, _, _, rfl, hd, rfl, _, rfl, rfl, rfl, d, _, _, rfl, hd, rfl, (by show 2 ≤ sizeLine; decide), fun t ht => k _ _ ((s1.trans s).trans (same_upd ht)) (.tup (SqT.of upd_same) (by show 2 ≤ 1000; decide) (.two (.str _) (.int _)))⟩, fun q => Bool.noConfusion q⟩
end
end LK
namespace LK
open PySem PySem.Spec PyProof.Rows L2 StX
def wordL : List Str := ["lot", "things", "listed", "other", "line", "", "here", "tie", "here", "size", "lists", "lists", "lists"]
def placeL : List Int := [-1, -1, -1, -1, -1, -1, -1, -1, -1, -1, 0, 1, 3]
/-- what a bad value is refused with -/
def badWord (n : Int) (w : Int) (d : PyData) : Str := match d with
  | .tuple [a, _] => if w = 8 ∧ isBelow n a = true then "there" else wordL.getD w.toNat ""
  | _ => wordL.getD w.toNat ""
theorem bad_do {K : PySem.W.Frag} {C : Addr} {H : Hp} {Q : VK} {E : XK} {n w : Int} {rows : List (List Int)} {v u : V} {d : PyData} (hb : BadK n rows.length w d) (h5 : w ≠ 5) (hv : Rp K H v (bookD n rows)) (hu : Rp K H u d) (hB : BookIn n rows) (hl : rows.length ≤ 500)
    (rz : Rz C E H (badWord n w d) (-1)) : DoSp K C w v u H Q E := by
  have bw : ∀ {w : Int} {x : Str}, w ≠ 8 → wordL.getD w.toNat "" = x → badWord n w d = x := fun h e => by
    unfold badWord
    split
    · rw [if_neg (fun z => h z.1)]
      exact e
    · exact e
  cases hb with
  | lot h =>
    refine .kept ⟨v, u, d, n, rows, rfl, hv, hu, (fun h1 h2 => by rw [h1, decide_eq_true h2] at h; cases h), trivial, ?_⟩
    have e : keptTo n rows d = .error ("lot", -1) := by unfold keptTo; rw [h]; rfl
    rw [e]
    rw [bw (by decide) rfl] at rz
    exact rz
  | things h =>
    refine .more ⟨v, u, d, n, rows, rfl, hv, hu, hl, ?_⟩
    have e : withList n rows d = .error ("things", -1) := by unfold withList; unfold goodList at h; rw [h]; rfl
    rw [e]
    rw [bw (by decide) rfl] at rz
    exact rz
  | listed h =>
    refine .less ⟨v, u, d, n, rows, rfl, hv, hu, trivial, ?_⟩
    have e : withoutList n rows d = .error ("listed", -1) := by unfold withoutList; rw [h]; rfl
    rw [e]
    rw [bw (by decide) rfl] at rz
    exact rz
  | other h h2 =>
    refine .beside ⟨v, u, d, n, rows, rfl, hv, hu, ⟨hl, h2⟩, ?_⟩
    have e : besideB n rows d = .error ("other", -1) := by unfold besideB; rw [h]; rfl
    rw [e]
    rw [bw (by decide) rfl] at rz
    exact rz
  | line h =>
    refine .line ⟨v, u, d, n, rows, rfl, hv, hu, hB.1, ?_⟩
    have e : rebasedB n rows d = .error ("line", -1) := by unfold rebasedB; rw [h]; rfl
    rw [e]
    rw [bw (by decide) rfl] at rz
    exact rz
  | none => exact absurd rfl h5
  | here h =>
    refine .near ⟨v, u, d, n, rows, rfl, hv, hu, hB, ?_⟩
    have e : nearOfX n rows d = .error ("here", -1) := by unfold nearOfX; rw [h]; rfl
    rw [e]
    rw [bw (by decide) rfl] at rz
    exact rz
  | tie h =>
    refine .between ⟨v, u, d, n, rows, rfl, hv, hu, hB, ?_⟩
    have e : betweenX n rows d = .error ("tie", -1) := by unfold betweenX isTie; rw [h]; rfl
    rw [e]
    rw [bw (by decide) rfl] at rz
    exact rz
  | @pair1 d1 d2 h =>
    obtain ⟨a, ws, rfl, ha, hz, ra⟩ := hu.tupA
    obtain ⟨x, y, e1, e2, rfl, ee, r1, r2⟩ := ra.len2 (by rw [ra.length]; rfl)
    injection ee with e3 ee
    injection ee with e4 ee
    subst e3 e4
    refine .tied ha ⟨v, x, y, _, _, n, rows, rfl, hv, r1, r2, trivial, ?_⟩
    have e : isTiedX n rows d1 d2 = .error ("here", -1) := by unfold isTiedX; rw [h]; rfl
    rw [e]
    have eb : badWord n 8 (.tuple [d1, d2]) = "here" := by show (if (8 : Int) = 8 ∧ isBelow n d1 = true then _ else _) = _; rw [h]; rfl
    rw [eb] at rz
    exact rz
  | @pair2 i d2 h0 h1 h =>
    obtain ⟨a, ws, rfl, ha, hz, ra⟩ := hu.tupA
    obtain ⟨x, y, e1, e2, rfl, ee, r1, r2⟩ := ra.len2 (by rw [ra.length]; rfl)
    injection ee with e3 ee
    injection ee with e4 ee
    subst e3 e4
    refine .tied ha ⟨v, x, y, _, _, n, rows, rfl, hv, r1, r2, trivial, ?_⟩
    have hi : isBelow n (.int i) = true := decide_eq_true ⟨h0, h1⟩
    have e : isTiedX n rows (.int i) d2 = .error ("there", -1) := by unfold isTiedX; rw [hi, h]; rfl
    rw [e]
    have eb : badWord n 8 (.tuple [.int i, d2]) = "there" := by show (if (8 : Int) = 8 ∧ isBelow n (.int i) = true then _ else _) = _; rw [hi]; rfl
    rw [eb] at rz
    exact rz
  | @pair3 i h0 h1 =>
    obtain ⟨a, ws, rfl, ha, hz, ra⟩ := hu.tupA
    obtain ⟨x, y, e1, e2, rfl, ee, r1, r2⟩ := ra.len2 (by rw [ra.length]; rfl)
    injection ee with e3 ee
    injection ee with e4 ee
    subst e3 e4
    refine .tied ha ⟨v, x, y, _, _, n, rows, rfl, hv, r1, r2, trivial, ?_⟩
    have hi : isBelow n (.int i) = true := decide_eq_true ⟨h0, h1⟩
    have e : isTiedX n rows (.int i) (.int i) = .error ("there", -1) := by unfold isTiedX; rw [hi]; simp [toInt]
    rw [e]
    have eb : badWord n 8 (.tuple [.int i, .int i]) = "there" := by show (if (8 : Int) = 8 ∧ isBelow n (.int i) = true then _ else _) = _; rw [hi]; rfl
    rw [eb] at rz
    exact rz
theorem same_true {K : PySem.W.Frag} {H : Hp} {Q : VK} {E : XK} {v u : V} {d : PyData} (hv : Rp K H v d) (hu : Rp K H u d) (hn : noL d = true) (hd : deepD d ≤ 4) (k : ∀ H', Same H H' → Q (.bl true) H') : spSame K 4 [v, u] H Q E :=
  ⟨v, u, d, d, rfl, hv, hu, hn, hd, fun b H' s e => by
    have : b = true := e.mpr rfl
    subst this
    exact k H' s⟩
theorem word_at : ∀ j : Nat, j < 13 → ([.str "lot", .str "things", .str "listed", .str "other", .str "line", .str "", .str "here", .str "tie", .str "here", .str "size"] ++ [PyData.str "lists", .str "lists", .str "lists"])[j]? = some (PyData.str (wordL.getD j ""))
  | 0, _ => rfl | 1, _ => rfl | 2, _ => rfl | 3, _ => rfl | 4, _ => rfl | 5, _ => rfl | 6, _ => rfl | 7, _ => rfl | 8, _ => rfl | 9, _ => rfl | 10, _ => rfl | 11, _ => rfl | 12, _ => rfl
  | j + 13, h => absurd h (by omega)
theorem place_at : ∀ j : Nat, j < 13 → [PyData.int (-1), .int (-1), .int (-1), .int (-1), .int (-1), .int (-1), .int (-1), .int (-1), .int (-1), .int (-1), .int 0, .int 1, .int 3][j]? = some (PyData.int (placeL.getD j 0))
  | 0, _ => rfl | 1, _ => rfl | 2, _ => rfl | 3, _ => rfl | 4, _ => rfl | 5, _ => rfl | 6, _ => rfl | 7, _ => rfl | 8, _ => rfl | 9, _ => rfl | 10, _ => rfl | 11, _ => rfl | 12, _ => rfl
  | j + 13, h => absurd h (by omega)
theorem vint_eq {j : Nat} {i : Int} : decide (V.int (j : Nat) = V.int i) = decide ((j : Int) = i) := by
  by_cases c : (j : Int) = i
  · rw [decide_eq_true c, decide_eq_true (by rw [c])]
  · rw [decide_eq_false c, decide_eq_false fun z => c (by injection z)]
section
variable {P : Program} {w : World} {K : PySem.W.Frag} {mg : Str → Option Value} {base : Heap} {ad : Nat → Addr} {fd : Nat → FuncData}
def spRefused (K : PySem.W.Frag) : Sp := fun vs H Q _ => ∃ (S p : Addr) (v : V) (n : Int) (rows : List (List Int)), vs = [.ref S, v] ∧ StOk H S p ∧ Rp K (hide S H) v (bookD n rows) ∧ 1 ≤ n ∧ n ≤ 45 ∧ rows.length ≤ 500 ∧ RowsIn n rows ∧
  ∀ H', Mv S p H H' → Q (.bl true) H'
theorem ok__law_refused (T : Txt K mg ad fd) : FnOk P w K mg base CX0 12 (ad 66) (fd 66) ["_law_s", "_law_book"] (spRefused K) := by
  refine T.F__law_refused.ok sc__law_refused (fun vs H Q E h => ?_) (fun cdv A outer s H vs Q E hr h => ?_)
  · obtain ⟨S, p, v, n, rows, rfl, _⟩ := h
    rfl
  · obtain ⟨S, p, v, n, rows, rfl, st, hv, n0, n1, hrw, hin, k⟩ := h
    refine ⟨_, (pss_cons (ps_for PassesOwn.never rfl (pi_range1 rfl T.g_range (pa_cons pe_int pa_nil)) (pg_name (i := 2) (x := "_law_k") sc__law_refused.nd rfl (Or.inl rfl))
  (pss_cons (ps_set (i := 3) sc__law_refused.nd rfl (Or.inl rfl) (pe_call (ok__law_take T) (hr.mono (by decide)) rfl T.m__law_take T.F__law_take.kp (b__law_take T) .nil pass0 (pa_cons (pv 0) (pa_cons pe_int pa_nil))))
  (pss_cons (ps_set (i := 4) sc__law_refused.nd rfl (Or.inl rfl) (pe_lst (pa_cons pe_str (pa_cons pe_str (pa_cons pe_str (pa_cons pe_str (pa_cons pe_str (pa_cons pe_str (pa_cons pe_str (pa_cons pe_str (pa_cons pe_str (pa_cons pe_str pa_nil))))))))))))
  (pss_cons (ps_if (pt_cmpR op_eq (pv 3) pe_int (nomark _)) (pss_one (ps_set (i := 6) sc__law_refused.nd rfl (Or.inl rfl) (pe_ix (ixL K) (pe_lst (pa_cons pe_int (pa_cons (pe_un un_neg pe_int) (pa_cons pe_non (pa_cons pe_bl (pa_cons pe_str (pa_cons (pe_tup (pa_cons pe_int pa_nil)) (pa_cons (pe_lst (pa_cons pe_int pa_nil)) pa_nil)))))))) (pe_call (ok__law_take T) (hr.mono (by decide)) rfl T.m__law_take T.F__law_take.kp (b__law_take T) .nil pass0 (pa_cons (pv 0) (pa_cons pe_int pa_nil))) (fun _ _ => rfl))))
  (pss_one (ps_if (pt_cmpR op_gt (pv 3) pe_int (nomark _)) (pss_one (ps_set (i := 6) sc__law_refused.nd rfl (Or.inl rfl) (pe_call (ok__law_bad T) (hr.mono (by decide)) rfl T.m__law_bad T.F__law_bad.kp (b__law_bad T) .nil pass0 (pa_cons (pv 0) (pa_cons pe_int (pa_cons (pe_tup (pa_cons pe_int (pa_cons (pe_tup pa_nil) pa_nil))) pa_nil))))))
  (pss_one (ps_set (i := 6) sc__law_refused.nd rfl (Or.inl rfl) (pe_call (ok__law_bad T) (hr.mono (by decide)) rfl T.m__law_bad T.F__law_bad.kp (b__law_bad T) .nil pass0 (pa_cons (pv 0) (pa_cons (pv 3) (pa_cons (pv 1) pa_nil)))))))))
  (pss_cons (ps_set (i := 5) sc__law_refused.nd rfl (Or.inl rfl) (pe_tup (pa_cons (pe_ix (ixL K) (pe_op (catL K) (pv 4) (pe_lst (pa_cons pe_str (pa_cons pe_str (pa_cons pe_str pa_nil))))) (pv 3) (fun _ _ => rfl)) (pa_cons (pe_ix (ixL K) (pe_lst (pa_cons (pe_un un_neg pe_int) (pa_cons (pe_un un_neg pe_int) (pa_cons (pe_un un_neg pe_int) (pa_cons (pe_un un_neg pe_int) (pa_cons (pe_un un_neg pe_int) (pa_cons (pe_un un_neg pe_int) (pa_cons (pe_un un_neg pe_int) (pa_cons (pe_un un_neg pe_int) (pa_cons (pe_un un_neg pe_int) (pa_cons (pe_un un_neg pe_int) (pa_cons pe_int (pa_cons pe_int (pa_cons pe_int pa_nil)))))))))))))) (pv 3) (fun _ _ => rfl)) pa_nil))))
  (pss_cons (ps_if (PW.pt (pw_and (pt_cmpR op_eq (pv 3) pe_int (nomark _)) (pw_and1 (pt_val (pe_call (ok__law_is_number T) (hr.mono (by decide)) rfl T.m__law_is_number T.F__law_is_number.kp (b__law_is_number T) .nil pass0 (pa_cons (pe_ix (ixT K) (pv 6) pe_int (fun _ _ => rfl)) (pa_cons (pe_ix (ixT K) (pv 1) pe_int (fun _ _ => rfl)) pa_nil))))))) (pss_one (ps_set (i := 5) sc__law_refused.nd rfl (Or.inl rfl) (pe_tup (pa_cons pe_str (pa_cons (pe_un un_neg pe_int) pa_nil)))))
  pss_nil)
  (pss_one (ps_if (PW.pt (pw_and (pt_cmpR op_ne (pv 3) pe_int (nomark _)) (pw_and1 (pt_not (pt_val (pe_call (ok__law_same T) (hr.mono (by decide)) rfl T.m__law_same T.F__law_same.kp (b__law_same T) .nil pass0 (pa_cons (pe_call (ok__law_ask T) (hr.mono (by decide)) rfl T.m__law_ask T.F__law_ask.kp (b__law_ask T) .nil pass0 (pa_cons (pv 3) (pa_cons (pv 1) (pa_cons (pv 6) (pa_cons (pe_cmpR op_lt (pv 2) pe_int (nomark _)) pa_nil))))) (pa_cons (pv 5) pa_nil)))))))) (pss_one (ps_ret pe_bl))
  pss_nil))))))))
  (pss_one (ps_ret pe_bl))), ?_⟩
    refine ⟨4, rfl, by decide, by decide, ?_⟩
    refine for_range (lo := 0) (n := 4) (fun i σ H1 => ∃ v2 v3 v4 v5 v6, σ = [some (.ref S), some v, v2, v3, v4, v5, v6] ∧ Mv S p H H1) ⟨none, none, none, none, none, rfl, Mv.refl st⟩ (fun i σ H1 hi ⟨v2, v3, v4, v5, v6, e1, m1⟩ => ?_) (fun σ H1 ⟨v2, v3, v4, v5, v6, e1, m1⟩ => ?_)
    · subst e1
      refine ⟨_, rfl, S, p, 13, rfl, m1.ok, by decide, by decide, fun z H2 z0 z1 m2 => ?_⟩
      obtain ⟨j, rfl⟩ : ∃ j : Nat, z = j := ⟨z.toNat, by omega⟩
      have hj : j < 13 := by omega
      try dsimp only [gName, tSeq, tAsg, tRet]
      refine y_useL (S := S) (p := p) (K := K) (d := .list [.str "lot", .str "things", .str "listed", .str "other", .str "line", .str "", .str "here", .str "tie", .str "here", .str "size"]) (y_lst (ya_cons y_str (ya_cons y_str (ya_cons y_str (ya_cons y_str (ya_cons y_str (ya_cons y_str (ya_cons y_str (ya_cons y_str (ya_cons y_str (ya_cons y_str ya_nil))))))))))) m2.ok fun v4' H3 m3 r4 => ?_
      have m13 := m1.trans (m2.trans m3)
      by_cases c9 : j = 9
      · refine ⟨_, rfl, rfl, _, rfl, ?_⟩
        rw [vint_eq, decide_eq_true (show (j : Int) = 9 by omega)]
        refine iteT ?_
        try dsimp only [gName, tSeq, tAsg, tRet]
        refine y_draw (K := K) (S := S) (p := p) (y_lst (ya_cons y_int (ya_cons (y_neg y_int) (ya_cons y_non (ya_cons y_bl (ya_cons y_str (ya_cons (y_tup (ya_cons y_int ya_nil)) (ya_cons (y_lst (ya_cons y_int ya_nil)) ya_nil)))))))) m3.ok (fun H3 Q1 m3 k3 => ⟨_, rfl, S, p, 7, rfl, m3.ok, by decide, by decide, fun r H4 r0 r1 m4 => k3 r H4 r0 (by simpa using r1) m4⟩) fun vb d H4 hd m4 r6 => ?_
        have m14 := m13.trans m4
        have hs : (isInteger d && decide (1 ≤ toInt d)) = false := by
          simp only [List.mem_cons, List.not_mem_nil, or_false] at hd
          rcases hd with rfl | rfl | rfl | rfl | rfl | rfl | rfl <;> rfl
        try dsimp only [gName, tSeq, tAsg, tRet]
        refine y_useT (S := S) (p := p) (K := K) (d := .tuple [.str (wordL.getD j ""), .int (placeL.getD j 0)]) (y_tup (ya_cons (y_ixL (j := j) (y_catL (y_var rfl (m4.rp r4)) (y_lst (ya_cons y_str (ya_cons y_str (ya_cons y_str ya_nil)))) (by decide)) (y_var rfl (.int _)) (word_at j hj)) (ya_cons (y_ixL (j := j) (y_lst (ya_cons (y_neg y_int) (ya_cons (y_neg y_int) (ya_cons (y_neg y_int) (ya_cons (y_neg y_int) (ya_cons (y_neg y_int) (ya_cons (y_neg y_int) (ya_cons (y_neg y_int) (ya_cons (y_neg y_int) (ya_cons (y_neg y_int) (ya_cons (y_neg y_int) (ya_cons y_int (ya_cons y_int (ya_cons y_int ya_nil)))))))))))))) (y_var rfl (.int _)) (place_at j hj)) ya_nil))) m4.ok fun v5' H5 m5 r5 => ?_
        have r6 := m5.rp r6
        have m15 := m14.trans m5
        try dsimp only [tIfS, tAnd]
        refine ⟨_, rfl, rfl, _, rfl, ?_⟩
        rw [vint_eq, decide_eq_false (show ¬ (j : Int) = 8 by omega)]
        refine iteF (iteF ⟨_, rfl, rfl, _, rfl, ?_⟩)
        rw [vint_eq, decide_eq_false (show ¬ (j : Int) = 5 by omega)]
        refine iteT ⟨_, rfl, _, rfl, _, rfl, _, rfl, _, _, rfl, rfl, ?_⟩
        refine ⟨(j : Int), v, vb, _, wordL.getD j "", placeL.getD j 0, rfl, ?_, fun z6 H6 s6 rz6 => ?_⟩
        · subst c9
          exact .size (rp_show r6) hs
        refine ⟨_, rfl, z6, v5', _, _, rfl, rz6, (rp_show r5).same s6, rfl, by show 1 ≤ 4; decide, fun b7 H7 s7 e7 => ?_⟩
        have eb7 : b7 = true := e7.mpr rfl
        subst eb7
        exact ⟨_, rfl, iteF ⟨_, _, _, _, _, rfl, m15.then (s6.trans s7)⟩⟩
      by_cases c10 : 9 < j
      · refine ⟨_, rfl, rfl, _, rfl, ?_⟩
        rw [vint_eq, decide_eq_false (show ¬ (j : Int) = 9 by omega)]
        refine iteF ⟨_, rfl, _, _, rfl, rfl, _, rfl, ?_⟩
        rw [decide_eq_true (show (9 : Int) < (j : Int) by omega)]
        refine iteT ⟨_, rfl, (by show 0 ≤ sizeLine; decide), fun q hq => ⟨(by show 2 ≤ sizeLine; decide), fun q2 hq2 => ?_⟩⟩
        have sa := same_upd (o := .tup []) hq
        have sb := same_upd (o := .tup [V.int 3, V.ref q]) hq2
        have m3a := (Mv.refl m3.ok).then (sa.trans sb)
        have rq : Rp K (upd (upd H3 q (.tup [])) q2 (.tup [V.int 3, V.ref q])) (.ref q2) (bookD 3 []) := rp_bookNew (SqT.of upd_same) (by decide) .nil hq2
        refine ⟨S, p, 1, .ref q2, 3, [], rfl, m3a.ok, rp_hide m3a.ok (noL_book _ _) rq, by decide, by decide, by decide, by omega, fun vb d H4 hb m4' r6 => ?_⟩
        have m4 := m3a.trans m4'
        have m14 := m13.trans m4
        have hg : goodList 3 d = false := by
          cases hb with
          | things h => exact h
        try dsimp only [gName, tSeq, tAsg, tRet]
        refine y_useT (S := S) (p := p) (K := K) (d := .tuple [.str (wordL.getD j ""), .int (placeL.getD j 0)]) (y_tup (ya_cons (y_ixL (j := j) (y_catL (y_var rfl (m4.rp r4)) (y_lst (ya_cons y_str (ya_cons y_str (ya_cons y_str ya_nil)))) (by decide)) (y_var rfl (.int _)) (word_at j hj)) (ya_cons (y_ixL (j := j) (y_lst (ya_cons (y_neg y_int) (ya_cons (y_neg y_int) (ya_cons (y_neg y_int) (ya_cons (y_neg y_int) (ya_cons (y_neg y_int) (ya_cons (y_neg y_int) (ya_cons (y_neg y_int) (ya_cons (y_neg y_int) (ya_cons (y_neg y_int) (ya_cons (y_neg y_int) (ya_cons y_int (ya_cons y_int (ya_cons y_int ya_nil)))))))))))))) (y_var rfl (.int _)) (place_at j hj)) ya_nil))) m4.ok fun v5' H5 m5 r5 => ?_
        have r6 := m5.rp r6
        have m15 := m14.trans m5
        try dsimp only [tIfS, tAnd]
        refine ⟨_, rfl, rfl, _, rfl, ?_⟩
        rw [vint_eq, decide_eq_false (show ¬ (j : Int) = 8 by omega)]
        refine iteF (iteF ⟨_, rfl, rfl, _, rfl, ?_⟩)
        rw [vint_eq, decide_eq_false (show ¬ (j : Int) = 5 by omega)]
        refine iteT ⟨_, rfl, _, rfl, _, rfl, _, rfl, _, _, rfl, rfl, ?_⟩
        refine ⟨(j : Int), v, vb, _, wordL.getD j "", placeL.getD j 0, rfl, ?_, fun z6 H6 s6 rz6 => ?_⟩
        · have hj3 : j = 10 ∨ j = 11 ∨ j = 12 := by omega
          rcases hj3 with rfl | rfl | rfl
          · exact .list0 (rp_show r6) hg
          · exact .list1 (rp_show r6) hg
          · exact .list3 (rp_show r6) hg
        refine ⟨_, rfl, z6, v5', _, _, rfl, rz6, (rp_show r5).same s6, rfl, by show 1 ≤ 4; decide, fun b7 H7 s7 e7 => ?_⟩
        have eb7 : b7 = true := e7.mpr rfl
        subst eb7
        exact ⟨_, rfl, iteF ⟨_, _, _, _, _, rfl, m15.then (s6.trans s7)⟩⟩
      · refine ⟨_, rfl, rfl, _, rfl, ?_⟩
        rw [vint_eq, decide_eq_false (show ¬ (j : Int) = 9 by omega)]
        refine iteF ⟨_, rfl, _, _, rfl, rfl, _, rfl, ?_⟩
        rw [decide_eq_false (show ¬ (9 : Int) < (j : Int) by omega)]
        refine iteF ⟨_, rfl, _, rfl, _, rfl, S, p, (j : Int), v, n, rows, rfl, m13.ok, m13.rp hv, n0, n1, hrw, by omega, fun vb d H4 hb m4 r6 => ?_⟩
        have m14 := m13.trans m4
        try dsimp only [gName, tSeq, tAsg, tRet]
        refine y_useT (S := S) (p := p) (K := K) (d := .tuple [.str (wordL.getD j ""), .int (placeL.getD j 0)]) (y_tup (ya_cons (y_ixL (j := j) (y_catL (y_var rfl (m4.rp r4)) (y_lst (ya_cons y_str (ya_cons y_str (ya_cons y_str ya_nil)))) (by decide)) (y_var rfl (.int _)) (word_at j hj)) (ya_cons (y_ixL (j := j) (y_lst (ya_cons (y_neg y_int) (ya_cons (y_neg y_int) (ya_cons (y_neg y_int) (ya_cons (y_neg y_int) (ya_cons (y_neg y_int) (ya_cons (y_neg y_int) (ya_cons (y_neg y_int) (ya_cons (y_neg y_int) (ya_cons (y_neg y_int) (ya_cons (y_neg y_int) (ya_cons y_int (ya_cons y_int (ya_cons y_int ya_nil)))))))))))))) (y_var rfl (.int _)) (place_at j hj)) ya_nil))) m4.ok fun v5' H5 m5 r5 => ?_
        have r6 := m5.rp r6
        have m15 := m14.trans m5
        by_cases c8 : j = 8
        · subst c8
          have hb : BadK n rows.length 8 d := hb
          have hb0 := hb
          obtain ⟨bb, bL, bxs, eb, sb, _⟩ := rp_book (rp_show (m15.rp hv))
          subst eb
          cases hb with
          | @pair1 d1 d2 h =>
            obtain ⟨a, ws, rfl, ha, hz, ra⟩ := (rp_show r6).tupA
            obtain ⟨x, y, e1, e2, rfl, ee, r1, r2⟩ := ra.len2 (by rw [ra.length]; rfl)
            injection ee with e3 ee
            injection ee with e4 ee
            subst e3 e4
            try dsimp only [tIfS, tAnd]
            refine ⟨_, rfl, rfl, _, rfl, iteT ?_⟩
            refine ⟨_, rfl, a, _, _, _, rfl, rfl, ha, rfl, _, rfl, bb, _, _, _, rfl, rfl, sb, rfl, x, _, n, rfl, r1, ?_⟩
            rw [h]
            have eb : badWord n 8 (.tuple [d1, d2]) = "here" := by show (if (8 : Int) = 8 ∧ isBelow n d1 = true then _ else _) = _; rw [h]; rfl
            refine ⟨_, rfl, iteF ?_⟩
            refine ⟨_, rfl, rfl, _, rfl, iteT ⟨_, rfl, _, rfl, _, rfl, _, rfl, _, _, rfl, rfl, ?_⟩⟩
            refine ⟨8, .ref bb, .ref a, _, "here", -1, rfl, .deed (by omega) (fun Q2 E2 rz => bad_do hb0 (by decide) (rp_show (m15.rp hv)) (rp_show r6) ⟨hin, by omega, by omega⟩ hrw (by rw [eb]; exact rz)), fun z6 H6 s6 rz6 => ?_⟩
            refine ⟨_, rfl, z6, v5', _, _, rfl, rz6, (rp_show r5).same s6, rfl, by show 1 ≤ 4; decide, fun b7 H7 s7 e7 => ?_⟩
            have eb7 : b7 = true := e7.mpr rfl
            subst eb7
            exact ⟨_, rfl, iteF ⟨_, _, _, _, _, rfl, m15.then (s6.trans s7)⟩⟩
          | @pair2 i d2 h0 h1 h =>
            obtain ⟨a, ws, rfl, ha, hz, ra⟩ := (rp_show r6).tupA
            obtain ⟨x, y, e1, e2, rfl, ee, r1, r2⟩ := ra.len2 (by rw [ra.length]; rfl)
            injection ee with e3 ee
            injection ee with e4 ee
            subst e3 e4
            try dsimp only [tIfS, tAnd]
            refine ⟨_, rfl, rfl, _, rfl, iteT ?_⟩
            refine ⟨_, rfl, a, _, _, _, rfl, rfl, ha, rfl, _, rfl, bb, _, _, _, rfl, rfl, sb, rfl, x, _, n, rfl, r1, ?_⟩
            have hi : isBelow n (.int i) = true := decide_eq_true ⟨h0, h1⟩
            rw [hi]
            have eb : badWord n 8 (.tuple [.int i, d2]) = "there" := by show (if (8 : Int) = 8 ∧ isBelow n (.int i) = true then _ else _) = _; rw [hi]; rfl
            refine ⟨_, rfl, iteT ?_⟩
            try dsimp only [gName, tSeq, tAsg, tRet]
            refine y_useT (S := S) (p := p) (K := K) (d := .tuple [.str "there", .int (-1)]) (y_tup (ya_cons y_str (ya_cons (y_neg y_int) ya_nil))) m5.ok fun v8 H8 m8 r8 => ?_
            have m18 := m15.trans m8
            refine ⟨_, rfl, rfl, _, rfl, iteT ⟨_, rfl, _, rfl, _, rfl, _, rfl, _, _, rfl, rfl, ?_⟩⟩
            refine ⟨8, .ref bb, .ref a, _, "there", -1, rfl, .deed (by omega) (fun Q2 E2 rz => bad_do hb0 (by decide) (rp_show (m18.rp hv)) (rp_show (m8.rp r6)) ⟨hin, by omega, by omega⟩ hrw (by rw [eb]; exact rz)), fun z6 H6 s6 rz6 => ?_⟩
            refine ⟨_, rfl, z6, v8, _, _, rfl, rz6, (rp_show r8).same s6, rfl, by show 1 ≤ 4; decide, fun b7 H7 s7 e7 => ?_⟩
            have eb7 : b7 = true := e7.mpr rfl
            subst eb7
            exact ⟨_, rfl, iteF ⟨_, _, _, _, _, rfl, m18.then (s6.trans s7)⟩⟩
          | @pair3 i h0 h1 =>
            obtain ⟨a, ws, rfl, ha, hz, ra⟩ := (rp_show r6).tupA
            obtain ⟨x, y, e1, e2, rfl, ee, r1, r2⟩ := ra.len2 (by rw [ra.length]; rfl)
            injection ee with e3 ee
            injection ee with e4 ee
            subst e3 e4
            try dsimp only [tIfS, tAnd]
            refine ⟨_, rfl, rfl, _, rfl, iteT ?_⟩
            refine ⟨_, rfl, a, _, _, _, rfl, rfl, ha, rfl, _, rfl, bb, _, _, _, rfl, rfl, sb, rfl, x, _, n, rfl, r1, ?_⟩
            have hi : isBelow n (.int i) = true := decide_eq_true ⟨h0, h1⟩
            rw [hi]
            have eb : badWord n 8 (.tuple [.int i, .int i]) = "there" := by show (if (8 : Int) = 8 ∧ isBelow n (.int i) = true then _ else _) = _; rw [hi]; rfl
            refine ⟨_, rfl, iteT ?_⟩
            try dsimp only [gName, tSeq, tAsg, tRet]
            refine y_useT (S := S) (p := p) (K := K) (d := .tuple [.str "there", .int (-1)]) (y_tup (ya_cons y_str (ya_cons (y_neg y_int) ya_nil))) m5.ok fun v8 H8 m8 r8 => ?_
            have m18 := m15.trans m8
            refine ⟨_, rfl, rfl, _, rfl, iteT ⟨_, rfl, _, rfl, _, rfl, _, rfl, _, _, rfl, rfl, ?_⟩⟩
            refine ⟨8, .ref bb, .ref a, _, "there", -1, rfl, .deed (by omega) (fun Q2 E2 rz => bad_do hb0 (by decide) (rp_show (m18.rp hv)) (rp_show (m8.rp r6)) ⟨hin, by omega, by omega⟩ hrw (by rw [eb]; exact rz)), fun z6 H6 s6 rz6 => ?_⟩
            refine ⟨_, rfl, z6, v8, _, _, rfl, rz6, (rp_show r8).same s6, rfl, by show 1 ≤ 4; decide, fun b7 H7 s7 e7 => ?_⟩
            have eb7 : b7 = true := e7.mpr rfl
            subst eb7
            exact ⟨_, rfl, iteF ⟨_, _, _, _, _, rfl, m18.then (s6.trans s7)⟩⟩
        try dsimp only [tIfS, tAnd]
        refine ⟨_, rfl, rfl, _, rfl, ?_⟩
        rw [vint_eq, decide_eq_false (show ¬ (j : Int) = 8 by omega)]
        refine iteF (iteF ⟨_, rfl, rfl, _, rfl, ?_⟩)
        rw [vint_eq]
        by_cases c5 : j = 5
        · rw [decide_eq_true (show (j : Int) = 5 by omega)]
          exact iteF (iteF ⟨_, _, _, _, _, rfl, m15⟩)
        rw [decide_eq_false (show ¬ (j : Int) = 5 by omega)]
        have eb : badWord n j d = wordL.getD j "" := by
          unfold badWord
          split
          · rw [if_neg (by omega)]
            rfl
          · rfl
        have ep : placeL.getD j 0 = -1 := by
          have : j = 0 ∨ j = 1 ∨ j = 2 ∨ j = 3 ∨ j = 4 ∨ j = 6 ∨ j = 7 := by omega
          rcases this with rfl | rfl | rfl | rfl | rfl | rfl | rfl <;> rfl
        rw [ep] at r5
        rw [← eb] at r5
        refine iteT ⟨_, rfl, _, rfl, _, rfl, _, rfl, _, _, rfl, rfl, ?_⟩
        refine ⟨(j : Int), v, vb, _, badWord n j d, -1, rfl, .deed (by omega) (fun Q2 E2 rz => bad_do hb (by omega) (rp_show (m15.rp hv)) (rp_show r6) ⟨hin, by omega, by omega⟩ hrw rz), fun z6 H6 s6 rz6 => ?_⟩
        refine ⟨_, rfl, z6, v5', _, _, rfl, rz6, (rp_show r5).same s6, rfl, by show 1 ≤ 4; decide, fun b7 H7 s7 e7 => ?_⟩
        have eb7 : b7 = true := e7.mpr rfl
        subst eb7
        exact ⟨_, rfl, iteF ⟨_, _, _, _, _, rfl, m15.then (s6.trans s7)⟩⟩
    · subst e1
      exact k H1 m1
end
end LK
/-! what lays data of which only a property is told -/
namespace LK
open PySem PySem.Spec PyProof.Rows L2
theorem hu65 {A : Around} {k : Nat} (hr : Room k A) : A.units + 65 < cLine := by have := hr.un; omega
theorem inD {X : Cx} (K : PySem.W.Frag) (hu : X.A.units + 65 < cLine) (hK : X.K = K := by rfl) : OpR X (compareOp .In) (rInD K) := hK ▸ op_inD hu
def YldP (K : PySem.W.Frag) (S p : Addr) (H0 : Hp) (σ : L2.St) (t : TE) (G : PyData → Prop) : Prop := ∀ H (Q : VK), Mv S p H0 H → (∀ v d H', G d → Mv S p H H' → Rp K (hide S H') v d → Q v H') → t σ H Q
def YldQ (K : PySem.W.Frag) (S p : Addr) (H0 : Hp) (σ : L2.St) (t : TA) (m : Nat) : Prop := ∀ H Q, Mv S p H0 H → (∀ vs ds H', ds.length = m → Mv S p H H' → RpAll K (hide S H') vs ds → Q vs H') → t σ H Q
def TupLe (m : Nat) (d : PyData) : Prop := ∃ ds, d = .tuple ds ∧ ds.length ≤ m
def LstEq (m : Nat) (d : PyData) : Prop := ∃ ds, d = .list ds ∧ ds.length = m
def AnyD (_ : PyData) : Prop := True
def PartOk (tl : TO) (σ : L2.St) : Prop := ∀ H R, (∀ o, R o H) → tl σ H R
theorem RpAll.reverse {K : PySem.W.Frag} {H : Hp} : ∀ {ds : List PyData} {vs : List V}, RpAll K H vs ds → RpAll K H vs.reverse ds.reverse
  | [], _, .nil => .nil
  | d :: ds, _, .cons a b => by
    rw [List.reverse_cons, List.reverse_cons]
    exact (RpAll.reverse b).app (.one a)
theorem rpTake {K : PySem.W.Frag} {H : Hp} : ∀ (n : Nat) {ds : List PyData} {vs : List V}, RpAll K H vs ds → RpAll K H (vs.take n) (ds.take n)
  | 0, _, _, _ => .nil
  | n + 1, [], _, .nil => .nil
  | n + 1, d :: ds, _, .cons a b => .cons a (rpTake n b)
theorem rpDrop {K : PySem.W.Frag} {H : Hp} : ∀ (n : Nat) {ds : List PyData} {vs : List V}, RpAll K H vs ds → RpAll K H (vs.drop n) (ds.drop n)
  | 0, _, _, r => r
  | n + 1, [], _, .nil => .nil
  | n + 1, d :: ds, _, .cons a b => rpDrop n b
theorem RpAll.cut {K : PySem.W.Frag} {H : Hp} {ds : List PyData} {vs : List V} (r : RpAll K H vs ds) (lo hi : Option Int) : ∃ es, RpAll K H (cutV vs lo hi) es ∧ es.length ≤ ds.length := by
  have := r.length
  refine ⟨_, rpTake _ (rpDrop _ r), ?_⟩
  rw [List.length_take, List.length_drop]
  omega
section
variable {K : PySem.W.Frag} {S p : Addr} {H0 : Hp} {σ : L2.St} {t ta tb : TE} {tt : TA} {tl th : TO} {d e : PyData} {ds : List PyData} {G G' : PyData → Prop} {m a b : Nat}
theorem YldP.mono (y : YldP K S p H0 σ t G) (h : ∀ d, G d → G' d) : YldP K S p H0 σ t G' := fun H Q mv k => y H Q mv fun v d H' g => k v d H' (h d g)
theorem p_any (y : YldP K S p H0 σ t G) : YldP K S p H0 σ t AnyD := y.mono fun _ _ => trivial
theorem p_of (y : Yld K S p H0 σ t d) (g : G d) : YldP K S p H0 σ t G := fun H Q mv k => y H Q mv fun v H' => k v d H' g
theorem p_ofA (y : Yld K S p H0 σ t d) : YldP K S p H0 σ t AnyD := p_of y trivial
theorem p_var {i : Nat} {v : V} (h : σ[i]? = some (some v)) (r : Rp K (hide S H0) v d) (g : G d) : YldP K S p H0 σ (tVar i) G := p_of (y_var h r) g
theorem q_nil : YldQ K S p H0 σ tNil 0 := fun H Q mv k => k _ [] _ rfl (Mv.refl mv.ok) .nil
theorem q_cons (y : YldP K S p H0 σ t G) (ys : YldQ K S p H0 σ tt m) : YldQ K S p H0 σ (tCons t tt) (m + 1) := fun H Q mv k =>
  y H _ mv fun v d H' _ m' r => ys H' _ (mv.trans m') fun vs ds H2 hl m2 r2 => k _ (d :: ds) _ (by rw [List.length_cons, hl]) (m'.trans m2) (.cons (m2.rp r) r2)
theorem p_tup (y : YldQ K S p H0 σ tt m) (hz : m ≤ 1000 := by decide) : YldP K S p H0 σ (tTup tt) (TupLe m) := fun H Q mv k =>
  y H _ mv fun vs ds H' e m' r => by
    have hl : vs.length ≤ 1000 := by rw [r.length]; omega
    refine ⟨le_line hl, fun q hq => ?_⟩
    exact k _ _ _ ⟨ds, rfl, Nat.le_of_eq e⟩ (m'.then (same_upd hq)) (rp_tupNew (free_ne m'.ok hq) r hq hl)
theorem p_lst (y : YldQ K S p H0 σ tt m) (hz : m ≤ 1000 := by decide) : YldP K S p H0 σ (tLst tt) (LstEq m) := fun H Q mv k =>
  y H _ mv fun vs ds H' e m' r => by
    have hl : vs.length ≤ 1000 := by rw [r.length]; omega
    refine ⟨le_line hl, fun q hq => ?_⟩
    exact k _ _ _ ⟨ds, rfl, e⟩ (m'.then (same_upd hq)) (rp_lstNew (free_ne m'.ok hq) r hq hl)
theorem p_catL (ya : YldP K S p H0 σ ta (LstEq a)) (yb : YldP K S p H0 σ tb (LstEq b)) (h : a + b ≤ 1000) : YldP K S p H0 σ (tOp (rCatL K) ta tb) (LstEq (a + b)) := fun H Q mv k =>
  ya H _ mv fun v d H' ⟨ds, ed, el⟩ m' r => yb H' _ (mv.trans m') fun v2 d2 H2 ⟨es, ed2, el2⟩ m2 r2 => by
    subst ed ed2
    obtain ⟨a1, xs, rfl, ha, la, ra⟩ := (m2.rp r).lstA
    obtain ⟨b1, ys, rfl, hb, lb, rb⟩ := r2.lstA
    have e1 := ra.length
    have e2 := rb.length
    refine ⟨a1, b1, xs, ys, rfl, rfl, (hide_same _ _).seq ha, (hide_same _ _).seq hb, by omega, fun q hq => ?_⟩
    exact k _ _ _ ⟨ds ++ es, rfl, by rw [List.length_append]; omega⟩ ((m'.trans m2).then (same_upd hq)) (rp_lstNew (free_ne m2.ok hq) (ra.app rb) hq (by rw [List.length_append]; omega))
theorem p_catT (ya : YldP K S p H0 σ ta (TupLe a)) (yb : YldP K S p H0 σ tb (TupLe b)) (h : a + b ≤ 1000) : YldP K S p H0 σ (tOp (rCatA K) ta tb) (TupLe (a + b)) := fun H Q mv k =>
  ya H _ mv fun v d H' ⟨ds, ed, el⟩ m' r => yb H' _ (mv.trans m') fun v2 d2 H2 ⟨es, ed2, el2⟩ m2 r2 => by
    subst ed ed2
    obtain ⟨a1, xs, rfl, ha, la, ra⟩ := (m2.rp r).tupA
    obtain ⟨b1, ys, rfl, hb, lb, rb⟩ := r2.tupA
    have e1 := ra.length
    have e2 := rb.length
    refine catA_use (seqT (hide_same _ _) ha) (seqT (hide_same _ _) hb) (by omega) fun q H3 s3 hq => ?_
    have m3 := (m'.trans m2).then s3
    obtain ⟨zs3, hS3⟩ := m3.ok.atS
    exact k _ _ _ ⟨ds ++ es, rfl, by rw [List.length_append]; omega⟩ m3 (.tup (seqT_hide hS3 hq) (by rw [List.length_append]; omega) ((ra.app rb).same (hide_mono s3)))
theorem p_revT (y : YldP K S p H0 σ t (TupLe m)) : YldP K S p H0 σ (tRevT K t) (TupLe m) := fun H Q mv k =>
  y H _ mv fun v d H' ⟨ds, ed, el⟩ m' r => by
    subst ed
    obtain ⟨a1, xs, rfl, ha, la, ra⟩ := r.tupA
    refine ⟨a1, xs, rfl, seqT (hide_same _ _) ha, fun q hq => ?_⟩
    exact k _ _ _ ⟨ds.reverse, rfl, by rw [List.length_reverse]; exact el⟩ (m'.then (same_upd hq)) (rp_tupNew (free_ne m'.ok hq) ra.reverse hq (by rw [List.length_reverse]; exact la))
theorem p_listOf (y : YldP K S p H0 σ t (TupLe m)) : YldP K S p H0 σ (tCB (rLstOf K) (tCons t tNil)) AnyD := fun H Q mv k =>
  y H _ mv fun v d H' ⟨ds, ed, el⟩ m' r => by
    subst ed
    obtain ⟨a1, xs, rfl, ha, la, ra⟩ := r.tupA
    refine ⟨a1, xs, rfl, .inr (seqT (hide_same _ _) ha), fun q hq => ?_⟩
    exact k _ _ _ trivial (m'.then (same_upd hq)) (rp_lstNew (free_ne m'.ok hq) ra hq la)
theorem part_no : PartOk tNoPart σ := fun H R h => h none
theorem part_int {i : Int} : PartOk (tPart (tC (.int i))) σ := fun H R h => ⟨i, rfl, h (some i)⟩
theorem part_neg {i : Int} : PartOk (tPart (tUn (rU fun i => .int (-i)) (tC (.int i)))) σ := fun H R h => ⟨i, rfl, -i, rfl, h (some (-i))⟩
theorem p_sl (y : YldP K S p H0 σ t (TupLe m)) (hl : PartOk tl σ) (hh : PartOk th σ) : YldP K S p H0 σ (tSl (rSlA K) t tl th) (TupLe m) := fun H Q mv k =>
  y H _ mv fun v d H' ⟨ds, ed, el⟩ m' r => hl _ _ fun lo => hh _ _ fun hi => by
    subst ed
    obtain ⟨a1, xs, rfl, ha, la, ra⟩ := r.tupA
    refine slA_use (seqT (hide_same _ _) ha) fun q H3 s3 hq => ?_
    have m3 := m'.then s3
    obtain ⟨zs3, hS3⟩ := m3.ok.atS
    obtain ⟨es, re, le⟩ := ra.cut lo hi
    have := cutV_length xs lo hi
    exact k _ _ _ ⟨es, rfl, by omega⟩ m3 (.tup (seqT_hide hS3 hq) (by omega) (re.same (hide_mono s3)))
theorem p_useL {Q : VK} {H : Hp} (y : YldP K S p H σ (tLst tt) G) (st : StOk H S p) (k : ∀ v d H', G d → Mv S p H H' → Rp K (hide S H') v d → Q v H') : tLst tt σ H Q := y H Q (Mv.refl st) k
theorem p_useO {r : R2} {Q : VK} {H : Hp} (y : YldP K S p H σ (tOp r ta tb) G) (st : StOk H S p) (k : ∀ v d H', G d → Mv S p H H' → Rp K (hide S H') v d → Q v H') : tOp r ta tb σ H Q := y H Q (Mv.refl st) k
end
end LK
namespace LK
open PySem PySem.Spec PyProof.Rows L2
def rgFrom (a : Int) (m : Nat) : List Int := (List.range m).map fun i : Nat => a + (i : Int)
theorem rgFrom_length (a : Int) (m : Nat) : (rgFrom a m).length = m := by unfold rgFrom; rw [List.length_map, List.length_range]
theorem rgV_from (a b : Int) : rgV a b = (rgFrom a (b - a).toNat).map V.int := by
  unfold rgV rgFrom
  rw [List.map_map]
  rfl
theorem rgFrom_first {n a : Int} {m : Nat} (h0 : 0 ≤ a) (h1 : a + m ≤ n) (h2 : 2 ≤ m) (h3 : m ≤ 1000) : FirstRow n (rgFrom a m) := by
  refine ⟨?_, by rw [rgFrom_length]; exact h2, by rw [rgFrom_length]; exact h3, fun x hx => ?_⟩
  · unfold rgFrom
    refine List.Pairwise.map _ ?_ (List.pairwise_lt_range (n := m))
    intro x y h e
    omega
  · obtain ⟨i, hi, rfl⟩ := List.mem_map.mp hx
    have := List.mem_range.mp hi
    omega
theorem firstRow_mono {n n' : Int} {r : List Int} (h : n ≤ n') (f : FirstRow n r) : FirstRow n' r := ⟨f.1, f.2.1, f.2.2.1, fun x hx => by have := f.2.2.2 x hx; omega⟩
theorem RpAll.snoc {K : PySem.W.Frag} {H : Hp} : ∀ {ds : List PyData} {d : PyData} {vs : List V}, RpAll K H vs (ds ++ [d]) → ∃ vi v, vs = vi ++ [v] ∧ RpAll K H vi ds ∧ Rp K H v d
  | [], d, vs, h => by
    cases h with
    | cons a b => cases b; exact ⟨[], _, rfl, .nil, a⟩
  | e :: ds, d, vs, h => by
    cases h with
    | cons a b =>
      obtain ⟨vi, v, e2, r1, r2⟩ := RpAll.snoc b
      subst e2
      exact ⟨_ :: vi, v, rfl, .cons a r1, r2⟩
theorem atI_last (xs : List V) (v : V) : atI (xs ++ [v]) (-1) = some v := by
  unfold atI ixN
  rw [if_neg (by decide), if_pos (by rw [List.length_append]; show -(((xs.length + 1 : Nat)) : Int) ≤ -1; omega)]
  have e : ((-1 : Int) + ((xs ++ [v]).length : Nat)).toNat = xs.length := by
    rw [List.length_append]
    show ((-1 : Int) + ((xs.length + 1 : Nat) : Int)).toNat = xs.length
    omega
  rw [e]
  show (xs ++ [v])[xs.length]? = some v
  simp
theorem rgFrom_succ (a : Int) (m : Nat) : rgFrom a (m + 1) = rgFrom a m ++ [a + (m : Int)] := by
  unfold rgFrom
  rw [List.range_succ, List.map_append]
  rfl
section
variable {P : Program} {w : World} {K : PySem.W.Frag} {mg : Str → Option Value} {base : Heap} {ad : Nat → Addr} {fd : Nat → FuncData}
def spWindows (K : PySem.W.Frag) : Sp := fun vs H Q _ => ∃ (S p : Addr), vs = [.ref S] ∧ StOk H S p ∧
  ∀ (t : Addr) (n : Int) (rows : List (List Int)) (H' : Hp), 1 ≤ n → n ≤ 40 → rows.length ≤ 20 → (∀ r ∈ rows, FirstRow n r) → Mv S p H H' → Rp K (hide S H') (.ref t) (.tuple [.int n, .list (rows.map dLst)]) → Q (.ref t) H'
theorem ok__law_windows (T : Txt K mg ad fd) : FnOk P w K mg base CX0 2 (ad 53) (fd 53) ["_law_s"] (spWindows K) := by
  refine T.F__law_windows.ok sc__law_windows (fun vs H Q E h => ?_) (fun cdv A outer s H vs Q E hr h => ?_)
  · obtain ⟨S, p, rfl, _⟩ := h
    rfl
  · obtain ⟨S, p, rfl, st, k⟩ := h
    refine ⟨_, (pss_cons (ps_set (i := 1) sc__law_windows.nd rfl (Or.inl rfl) (pe_lst (pa_cons (pe_listRg rfl rfl T.g_list (prg_1 rfl T.g_range (pe_op op_add pe_int (pe_call (ok__law_take T) (hr.mono (by decide)) rfl T.m__law_take T.F__law_take.kp (b__law_take T) .nil pass0 (pa_cons (pv 0) (pa_cons pe_int pa_nil)))))) pa_nil)))
  (pss_cons (ps_for PassesOwn.never rfl (pi_range1 rfl T.g_range (pa_cons (pe_op op_add pe_int (pe_call (ok__law_take T) (hr.mono (by decide)) rfl T.m__law_take T.F__law_take.kp (b__law_take T) .nil pass0 (pa_cons (pv 0) (pa_cons pe_int pa_nil)))) pa_nil)) (pg_name (i := 2) (x := "_law_k") sc__law_windows.nd rfl (Or.inl rfl))
  (pss_cons (ps_set (i := 3) sc__law_windows.nd rfl (Or.inl rfl) (pe_ix (ixL K) (pe_ix (ixL K) (pv 1) (pe_un un_neg pe_int) (fun _ _ => rfl)) (pe_un un_neg pe_int) (fun _ _ => rfl)))
  (pss_cons (ps_set (i := 4) sc__law_windows.nd rfl (Or.inl rfl) (pe_call (ok__law_take T) (hr.mono (by decide)) rfl T.m__law_take T.F__law_take.kp (b__law_take T) .nil pass0 (pa_cons (pv 0) (pa_cons (pe_callB (call_min2 rfl) (by rfl) T.g_min (by decide +kernel) (pa_cons pe_int (pa_cons (pe_callB (lenS K) (by rfl) T.g_len (by decide +kernel) (pa_cons (pe_ix (ixL K) (pv 1) (pe_un un_neg pe_int) (fun _ _ => rfl)) pa_nil)) pa_nil))) pa_nil))))
  (pss_one (ps_if (pt_cmpR op_lt (pv 3) pe_int (nomark _)) (pss_one (ps_expr (pe_bmK K PySem.F.plainAttrs_list PySem.F.slot_list_append PySem.F.type_list_append mt_append (pv 1) (pa_cons (pe_listRg rfl rfl T.g_list (prg_2 rfl T.g_range (pe_op op_sub (pe_op op_add (pv 3) pe_int) (pv 4)) (pe_op op_add (pe_op op_add (pe_op op_add (pv 3) pe_int) (pe_call (ok__law_take T) (hr.mono (by decide)) rfl T.m__law_take T.F__law_take.kp (b__law_take T) .nil pass0 (pa_cons (pv 0) (pa_cons (pe_op op_sub pe_int (pv 4)) pa_nil)))) (pe_callTy call_int1 (by rfl) T.g_int (by decide +kernel) (pa_cons (pe_cmpR op_eq (pv 4) pe_int (nomark _)) pa_nil))))) pa_nil))))
  pss_nil)))))
  (pss_one (ps_ret (pe_tup (pa_cons (pe_op op_add (pe_ix (ixL K) (pe_ix (ixL K) (pv 1) (pe_un un_neg pe_int) (fun _ _ => rfl)) (pe_un un_neg pe_int) (fun _ _ => rfl)) pe_int) (pa_cons (pv 1) pa_nil))))))), ?_⟩
    refine ⟨_, rfl, S, p, 4, rfl, st, by decide, by decide, fun r H1 r0 r1 m1 => ?_⟩
    refine ⟨_, _, rfl, rfl, _, rfl, RgOk.of_le (by decide) (by omega) (by decide) (by omega), fun B hB => ⟨(by show 1 ≤ sizeLine; decide), fun R hR1 => ?_⟩⟩
    have hs1 : (1000 : Nat) < sizeLine := by decide
    have mv1 := (Mv.refl st).trans m1
    have hB0 := mv1.free hB
    have bS := free_ne st hB0
    have mv2 := mv1.put (o := .lst (rgV 0 (2 + r))) st hB0
    have hR0 := mv2.free hR1
    have rS := free_ne st hR0
    have hBR : B ≠ R := fun e => by rw [← e, upd_same] at hR1; cases hR1
    have mv3 := mv2.put (o := .lst [.ref B]) st hR0
    refine ⟨_, rfl, S, p, 8, rfl, mv3.ok, by decide, by decide, fun r2 H2 r20 r21 m2 => ⟨_, _, rfl, rfl, _, rfl, by omega, by omega, ?_⟩⟩
    have mv4 := mv3.trans m2
    have hR2 : H2 R = some (.lst [.ref B]) := m2.get rS upd_same
    have hB2 : H2 B = some (.lst ((rgFrom 0 (2 + r).toNat).map V.int)) := m2.get bS (by rw [upd_ne hBR, upd_same, rgV_from, Int.sub_zero])
    refine for_range (lo := 0) (n := (3 + r2).toNat) (fun i σ H3 => ∃ (ini : List (List Int)) (a : Int) (m : Nat) (vs : List V) (v2 v3 v4 : Option V), σ = [some (.ref S), some (.ref R), v2, v3, v4] ∧ Mv S p H H3 ∧ H3 R = some (.lst vs) ∧ RpAll K (hide R (hide S H3)) vs ((ini ++ [rgFrom a m]).map dLst) ∧ ini.length ≤ i ∧ 0 ≤ a ∧ 2 ≤ m ∧ a + (m : Int) ≤ 40 ∧ ∀ r ∈ ini, FirstRow (a + (m : Int)) r)
      ⟨[], 0, (2 + r).toNat, [.ref B], none, none, none, rfl, mv4, hR2, .one (LstI.rp ⟨SqL.of (by rw [hide_ne hBR, hide_ne bS]; exact hB2), by rw [rgFrom_length]; omega⟩), Nat.le_refl _, by omega, by omega, by omega, fun r hr => by simp at hr⟩
      (fun i σ H3 hi ⟨ini, a, m, vs, v2, v3, v4, e3, mv, hR3, rr, hlen, ha, hm, ham, hini⟩ => ?_) (fun σ H3 ⟨ini, a, m, vs, v2, v3, v4, e3, mv, hR3, rr, hlen, ha, hm, ham, hini⟩ => ?_)
    · subst e3
      have rr1 := rr
      rw [List.map_append] at rr1
      obtain ⟨vi, vl, ev, rri, rl⟩ := rr1.snoc
      subst ev
      obtain ⟨Bk, rfl, tk⟩ := Rp.lstI (ns := rgFrom a m) rl
      obtain ⟨m', rfl⟩ : ∃ m', m = m' + 1 := ⟨m - 1, by omega⟩
      have tkH : SqL K H3 Bk ((rgFrom a (m' + 1)).map V.int) := ((tk.same (hide_same _ _)).same (hide_same _ _)).1
      have at1 := atI_last vi (.ref Bk)
      have at2 : atI ((rgFrom a (m' + 1)).map V.int) (-1) = some (.int (a + (m' : Int))) := by
        rw [rgFrom_succ, List.map_append]
        exact atI_last _ _
      refine ⟨_, rfl, _, rfl, R, _, _, _, rfl, rfl, SqL.of hR3, at1, _, rfl, Bk, _, _, _, rfl, rfl, tkH, at2, ?_⟩
      refine ⟨_, rfl, _, rfl, _, rfl, R, _, _, _, rfl, rfl, SqL.of hR3, at1, Bk, _, rfl, .inl tkH, _, _, rfl, S, p, _, rfl, mv.ok, ?_, ?_, fun r4 H4 r40 r41 m4 => ?_⟩
      · rw [List.length_map, rgFrom_length]
        split <;> omega
      · rw [List.length_map, rgFrom_length]
        split <;> omega
      have r42 : r4 < 4 ∧ r4 < (m' + 1 : Nat) := by
        rw [List.length_map, rgFrom_length] at r41
        split at r41 <;> omega
      have hR4 := m4.get rS hR3
      refine ⟨_, rfl, _, _, rfl, rfl, _, rfl, ?_⟩
      by_cases c : a + (m' : Int) < 35
      rotate_left
      · rw [decide_eq_false c]
        exact iteF ⟨ini, a, m' + 1, _, _, _, _, rfl, mv.trans m4, hR4, rr.same (hide_mono m4.same), by omega, ha, hm, ham, hini⟩
      rw [decide_eq_true c]
      refine iteT ⟨_, rfl, .inl ⟨rfl, _, SqL.of hR4⟩, _, rfl, _, _, rfl, rfl, _, rfl, _, _, rfl, rfl, _, rfl, _, _, rfl, rfl, _, rfl, _, rfl, _, _, rfl, rfl, S, p, _, rfl, m4.ok, by omega, by omega, fun r5 H5 r50 r51 m5 => ?_⟩
      refine ⟨_, _, rfl, rfl, _, rfl, rfl, .inr ⟨_, rfl, _, _, rfl, rfl, _, _, rfl, rfl, ?_⟩⟩
      have he : ((r4 = 0 → (if decide (V.int r4 = V.int 0) = true then (1 : Int) else 0) = 1)) ∧ (0 : Int) ≤ (if decide (V.int r4 = V.int 0) = true then (1 : Int) else 0) ∧ (if decide (V.int r4 = V.int 0) = true then (1 : Int) else 0) ≤ 1 ∧ (r4 ≠ 0 → (if decide (V.int r4 = V.int 0) = true then (1 : Int) else 0) = 0) := by
        by_cases z : r4 = 0
        · rw [decide_eq_true (show V.int r4 = V.int 0 by rw [z]), if_pos rfl]
          exact ⟨fun _ => rfl, by decide, by decide, fun h => absurd z h⟩
        · rw [decide_eq_false (show ¬ V.int r4 = V.int 0 from fun h => z (by injection h)), if_neg (by decide)]
          exact ⟨fun h => absurd h z, by decide, by decide, fun _ => rfl⟩
      generalize (if decide (V.int r4 = V.int 0) = true then (1 : Int) else 0) = ee at he
      obtain ⟨he1, he2, he3, he4⟩ := he
      have hlo : a + (m' : Int) + 1 - r4 ≥ a + 1 := by omega
      have hhi : a + (m' : Int) + 2 + r5 + ee ≤ 40 := by
        by_cases z : r4 = 0
        · omega
        · have := he4 z
          omega
      have hlen2 : 2 ≤ (a + (m' : Int) + 2 + r5 + ee - (a + (m' : Int) + 1 - r4)).toNat := by
        by_cases z : r4 = 0
        · have := he1 z
          omega
        · omega
      generalize hA : a + (m' : Int) + 1 - r4 = lo at hlo hlen2
      generalize hB9 : a + (m' : Int) + 2 + r5 + ee = hi9 at hhi hlen2
      refine ⟨RgOk.of_le ?_ ?_ ?_ ?_, fun q hq => ?_⟩
      · omega
      · omega
      · omega
      · omega
      subst hA hB9
      have m45 := m4.trans m5
      have mv5 := mv.trans m45
      have hq0 := mv5.free hq
      have hqR : q ≠ R := fun e => by rw [e, m45.get rS hR3] at hq; cases hq
      have hqS := free_ne st hq0
      have lv : (vi ++ [V.ref Bk]).length ≤ 1000 := by
        rw [rr.length, List.length_map, List.length_append]
        show ini.length + 1 ≤ 1000
        omega
      refine ⟨R, vi ++ [.ref Bk], .ref q, rfl, rfl, by rw [upd_ne hqR.symm]; exact m45.get rS hR3, by omega, ?_⟩
      refine ⟨ini ++ [rgFrom a (m' + 1)], a + (m' : Int) + 1 - r4, (a + (m' : Int) + 2 + r5 + ee - (a + (m' : Int) + 1 - r4)).toNat, _, _, _, _, rfl, (mv5.put st hq0).put st hR0, upd_same, ?_, by rw [List.length_append]; show ini.length + 1 ≤ i + 1; omega, by omega, hlen2, by omega, fun r hr => ?_⟩
      · rw [hide_upd rS, hide_upd_self, List.map_append]
        refine (rr.same (hide_mono ((m45.put (o := .lst (rgV (a + (m' : Int) + 1 - r4) (a + (m' : Int) + 2 + r5 + ee))) mv.ok (m45.free hq)).same))).app (.one (LstI.rp ⟨SqL.of ?_, by rw [rgFrom_length]; omega⟩))
        rw [hide_ne hqR, hide_ne hqS, upd_same, rgV_from]
      · rcases List.mem_append.mp hr with h | h
        · exact firstRow_mono (by omega) (hini r h)
        · rw [List.mem_singleton.mp h]
          exact rgFrom_first ha (by omega) hm (by omega)
    · subst e3
      have rr1 := rr
      rw [List.map_append] at rr1
      obtain ⟨vi, vl, ev, rri, rl⟩ := rr1.snoc
      subst ev
      obtain ⟨Bk, rfl, tk⟩ := Rp.lstI (ns := rgFrom a m) rl
      obtain ⟨m', rfl⟩ : ∃ m', m = m' + 1 := ⟨m - 1, by omega⟩
      have tkH : SqL K H3 Bk ((rgFrom a (m' + 1)).map V.int) := ((tk.same (hide_same _ _)).same (hide_same _ _)).1
      have at1 := atI_last vi (.ref Bk)
      have at2 : atI ((rgFrom a (m' + 1)).map V.int) (-1) = some (.int (a + (m' : Int))) := by
        rw [rgFrom_succ, List.map_append]
        exact atI_last _ _
      refine ⟨_, rfl, _, rfl, R, _, _, _, rfl, rfl, SqL.of hR3, at1, _, rfl, Bk, _, _, _, rfl, rfl, tkH, at2, _, _, rfl, rfl, _, rfl, (by show 2 ≤ sizeLine; decide), fun t ht => ?_⟩
      have tS := free_ne mv.ok ht
      have rr0 : RpAll K (hide S H3) (vi ++ [V.ref Bk]) ((ini ++ [rgFrom a (m' + 1)]).map dLst) := rr.same (hide_same _ _)
      refine k t (a + (m' : Int) + 1) (ini ++ [rgFrom a (m' + 1)]) _ (by omega) (by omega) ?_ (fun r hr => ?_) (mv.put st (mv.free ht)) ?_
      · rw [List.length_append]
        show ini.length + 1 ≤ 20
        omega
      · rcases List.mem_append.mp hr with h | h
        · exact firstRow_mono (by omega) (hini r h)
        · rw [List.mem_singleton.mp h]
          exact rgFrom_first ha (by omega) hm (by omega)
      · rw [hide_upd tS]
        have s1 := same_upd (H := hide S H3) (o := .tup [.int (a + (m' : Int) + 1), .ref R]) (hide_free ht)
        refine .tup (SqT.of upd_same) (by show 2 ≤ 1000; decide) (.two (.int _) (.lst (SqL.of (s1 _ _ ?_)) ?_ (rr0.same s1)))
        · rw [hide_ne rS]
          exact hR3
        · rw [rr0.length, List.length_map, List.length_append]
          show ini.length + 1 ≤ 1000
          omega
end
end LK
namespace LK
open PySem PySem.Spec PyProof.Rows L2
theorem canLay_ints : ∀ ns : List Int, PyData.canLayAll0 (ns.map PyData.int) = true
  | [] => rfl
  | n :: ns => by
    rw [List.map_cons]
    unfold PyData.canLayAll0
    rw [canLay_ints ns]
    rfl
theorem canLay_rows : ∀ T : List (List Int), PyData.canLayAll0 (T.map dTup) = true
  | [] => rfl
  | r :: T => by
    rw [List.map_cons]
    unfold PyData.canLayAll0
    rw [canLay_rows T]
    show (PyData.canLayAll0 (r.map PyData.int) && true) = true
    rw [canLay_ints r]
    rfl
theorem depth_ints : ∀ ns : List Int, PyData.depthAll (ns.map PyData.int) = 0
  | [] => rfl
  | n :: ns => by
    rw [List.map_cons]
    unfold PyData.depthAll
    rw [depth_ints ns]
    rfl
theorem depth_rows : ∀ T : List (List Int), PyData.depthAll (T.map dTup) ≤ 1
  | [] => Nat.zero_le _
  | r :: T => by
    rw [List.map_cons]
    unfold PyData.depthAll
    have h1 := depth_rows T
    have h2 : PyData.depth (dTup r) = 1 := by
      show PyData.depthAll (r.map PyData.int) + 1 = 1
      rw [depth_ints]
    rw [h2]
    omega
theorem shaped_row (r : List Int) : SeqAt.shaped (dTup r) = true := by
  have h2 : PyData.depth (dTup r) = 1 := by
    show PyData.depthAll (r.map PyData.int) + 1 = 1
    rw [depth_ints]
  have h1 : PyData.canLay0 (dTup r) = true := canLay_ints r
  unfold SeqAt.shaped
  rw [h1, h2]
  rfl
theorem shaped_rows (T : List (List Int)) : SeqAt.shaped (.list (T.map dTup)) = true := by
  have h1 : PyData.canLay0 (.list (T.map dTup)) = true := canLay_rows T
  have h2 : PyData.depth (.list (T.map dTup)) ≤ 64 := by
    show PyData.depthAll (T.map dTup) + 1 ≤ 64
    have := depth_rows T
    omega
  unfold SeqAt.shaped
  rw [h1, decide_eq_true h2]
  rfl
theorem eqv_ints : ∀ a b : List Int, PyData.eqvAll (a.map PyData.int) (b.map PyData.int) = decide (a = b)
  | [], [] => rfl
  | [], _ :: _ => rfl
  | _ :: _, [] => rfl
  | x :: a, y :: b => by
    rw [List.map_cons, List.map_cons]
    unfold PyData.eqvAll
    rw [eqv_ints a b]
    show ((x == y) && decide (a = b)) = decide (x :: a = y :: b)
    by_cases c : x = y
    · subst c
      simp
    · simp [c]
theorem dTup_inj {a b : List Int} (h : dTup a = dTup b) : a = b := by rw [← dInts_tup a, h, dInts_tup]
theorem mem_rows {T : List (List Int)} {r : List Int} : dTup r ∈ T.map dTup ↔ r ∈ T := by
  rw [List.mem_map]
  exact ⟨fun ⟨a, ha, e⟩ => by rw [← dTup_inj e]; exact ha, fun h => ⟨r, h, rfl⟩⟩
theorem any_rows (T : List (List Int)) (r : List Int) : ((T.map dTup).any fun z => PyData.eqv z (dTup r)) = true ↔ dTup r ∈ T.map dTup := by
  rw [List.any_eq_true, mem_rows]
  constructor
  · rintro ⟨z, hz, he⟩
    obtain ⟨a, ha, rfl⟩ := List.mem_map.mp hz
    have e2 : PyData.eqvAll (a.map PyData.int) (r.map PyData.int) = true := he
    rw [eqv_ints, decide_eq_true_iff] at e2
    subst e2
    exact ha
  · intro h
    refine ⟨dTup r, List.mem_map.mpr ⟨r, h, rfl⟩, ?_⟩
    show PyData.eqvAll (r.map PyData.int) (r.map PyData.int) = true
    rw [eqv_ints]
    simp
theorem deep_ints : ∀ ns : List Int, deepDs (ns.map PyData.int) = 0
  | [] => rfl
  | n :: ns => by
    rw [List.map_cons]
    unfold deepDs
    rw [deep_ints ns]
    rfl
theorem deep_row (r : List Int) : deepD (dTup r) ≤ 4 := by
  show deepDs (r.map PyData.int) + 1 ≤ 4
  rw [deep_ints]
  decide
theorem rp_pair {K : PySem.W.Frag} {H : Hp} {q : Addr} {x y : V} {d e : PyData} (hq : H q = none) (r1 : Rp K H x d) (r2 : Rp K H y e) : Rp K (upd H q (.tup [x, y])) (.ref q) (.tuple [d, e]) :=
  .tup (SqT.of upd_same) (by show 2 ≤ 1000; decide) (.two (r1.same (same_upd hq)) (r2.same (same_upd hq)))
theorem row_two (n : Int) (rows : List (List Int)) (a b : Int) : isRow n rows (dTup [a, b]) = isTie n rows (dTup [a, b]) := by
  unfold isRow isTie
  rw [dInts_tup]
  simp [tiedAll]
section
variable {P : Program} {w : World} {K : PySem.W.Frag} {mg : Str → Option Value} {base : Heap} {ad : Nat → Addr} {fd : Nat → FuncData}
theorem at_seq {t u : TS} {D : Ends} {σ : L2.St} {H : Hp} (h : t { D with nx := u D } σ H) : tSeq t u D σ H := h
theorem at_for {wi : TI} {g : TG} {tb : TS} {D : Ends} {σ : L2.St} {H : Hp} (h : wi σ H fun J H1 => ∃ W : Nat → Nat → L2.St → Hp → Prop, (∃ m, W 0 m σ H1) ∧ ∀ i m σ H, W i m σ H →
  (J.stop i H ∧ D.nx σ H) ∨ (J.go i H ∧ ∃ N : L2.St → Hp → Prop, (∀ σ' H', N σ' H' → ∃ m', m' < m ∧ W (i + 1) m' σ' H') ∧ ∀ x H', J.yld i H x H' → g x σ H' fun σ2 H2 => tb { D with nx := N, ct := N, bk := D.nx } σ2 H2)) : tFor wi g tb D σ H := h
theorem p_useF {S p : Addr} {σ : L2.St} {H : Hp} {ta tb : TE} {r : R2} {G : PyData → Prop} {R : It → Hp → Prop} (y : YldP K S p H σ (tOp r ta tb) G) (st : StOk H S p) (k : ∀ v d H', G d → Mv S p H H' → Rp K (hide S H') v d → ∃ a, v = .ref a ∧ (∃ xs, SqL K H' a xs) ∧ R (Itl K a) H') : iList K (tOp r ta tb) σ H R := y H _ (Mv.refl st) k
/-- what is asked of a book's rows, by ties T and neighbours nr -/
structure LookOk (n : Int) (rows : List (List Int)) (T nr : List (List Int)) : Prop where
  n0 : 1 ≤ n
  n1 : n ≤ 45
  lT : T.length ≤ 1000
  lr : (nr.length : Int) = n
  inr : ∀ r ∈ nr, ∀ x ∈ r, 0 ≤ x ∧ x < n
  tie : ∀ d, isTie n rows d = true ↔ d ∈ T.map dTup
  row : ∀ d, isRow n rows d = isRowL nr d
def spKinds (K : PySem.W.Frag) : Sp := fun vs H Q _ => ∃ (S p : Addr) (v vt vn : V) (n : Int) (rows T nr : List (List Int)), vs = [.ref S, v, vt, vn] ∧ StOk H S p ∧ Rp K (hide S H) v (bookD n rows) ∧ Rp K (hide S H) vt (.list (T.map dTup)) ∧ Rp K (hide S H) vn (.list (nr.map dLst)) ∧
  LookOk n rows T nr ∧ ∀ H', Mv S p H H' → Q (.bl true) H'
theorem ok__law_kinds (T : Txt K mg ad fd) : FnOk P w K mg base CX0 7 (ad 62) (fd 62) ["_law_s", "_law_book", "_law_ties", "_law_near"] (spKinds K) := by
  refine T.F__law_kinds.ok sc__law_kinds (fun vs H Q E h => ?_) (fun cdv A outer s H vs Q E hr h => ?_)
  · obtain ⟨S, p, v, vt, vn, n, rows, TT, nr, rfl, _⟩ := h
    rfl
  · obtain ⟨S, p, v, vt, vn, n, rows, TT, nr, rfl, st, hv, ht, hn, ok, k⟩ := h
    refine ⟨_, (pss_cons (ps_set (i := 4) sc__law_kinds.nd rfl (Or.inl rfl) (pe_callB (lenS K) (by rfl) T.g_len (by decide +kernel) (pa_cons (pv 3) pa_nil)))
  (pss_cons (ps_set (i := 5) sc__law_kinds.nd rfl (Or.inl rfl) (pe_lst pa_nil))
  (pss_cons (ps_for PassesOwn.never rfl (pi_range1 rfl T.g_range (pa_cons pe_int pa_nil)) (pg_name (i := 6) (x := "_law_k") sc__law_kinds.nd rfl (Or.inl rfl))
  (pss_cons (ps_set (i := 9) sc__law_kinds.nd rfl (Or.inl rfl) (pe_call (ok__law_take T) (hr.mono (by decide)) rfl T.m__law_take T.F__law_take.kp (b__law_take T) .nil pass0 (pa_cons (pv 0) (pa_cons (pv 4) pa_nil))))
  (pss_cons (ps_set (i := 10) sc__law_kinds.nd rfl (Or.inr rfl) (pe_tup (pa_cons (pv 9) pa_nil)))
  (pss_cons (ps_for PassesOwn.never rfl (pi_range1 rfl T.g_range (pa_cons (pe_op op_add pe_int (pe_call (ok__law_take T) (hr.mono (by decide)) rfl T.m__law_take T.F__law_take.kp (b__law_take T) .nil pass0 (pa_cons (pv 0) (pa_cons pe_int pa_nil)))) pa_nil)) (pg_name (i := 11) (x := "_law_n") sc__law_kinds.nd rfl (Or.inl rfl))
  (pss_cons (ps_setLc (i := 12) (own := [("_law_x", 13)]) (g := gName 13) rfl sc__law_kinds.nd rfl rfl (sw_true rfl rfl rfl (by decide +kernel)) (piL K (pe_ix (ixL K) (pv 3) (pe_ix (ixT K) (pv 10) (pe_un un_neg pe_int) (fun _ _ => rfl)) (fun _ _ => rfl))) (blkOk_by (N := ["_law_s", "_law_book", "_law_ties", "_law_near", "_law_size", "_law_asked", "_law_k", "_law_thing", "_law_due_here", "_law_here", "_law_row", "_law_n", "_law_above", "_law_x", "_law_tie"]) (sc := defScope s__law_kinds) (by decide +kernel)) (fun _ _ _ _ _ => (pg_name (i := 13) (x := "_law_x") sc__law_kinds.nd rfl (Or.inl rfl))) (fun _ _ _ _ _ => (pts_one (pt_cmpR op_gt (pv 13) (pe_ix (ixT K) (pv 10) (pe_un un_neg pe_int) (fun _ _ => rfl)) (nomark _)))) (fun _ _ _ _ _ => (pv 13)))
  (pss_one (ps_if (pt_cmpR op_gt (pe_callB (lenS K) (by rfl) T.g_len (by decide +kernel) (pa_cons (pv 12) pa_nil)) pe_int (nomark _)) (pss_one (ps_set (i := 10) sc__law_kinds.nd rfl (Or.inr rfl) (pe_op (catA K) (pv 10) (pe_tup (pa_cons (pe_ix (ixL K) (pv 12) (pe_call (ok__law_take T) (hr.mono (by decide)) rfl T.m__law_take T.F__law_take.kp (b__law_take T) .nil pass0 (pa_cons (pv 0) (pa_cons (pe_callB (lenS K) (by rfl) T.g_len (by decide +kernel) (pa_cons (pv 12) pa_nil)) pa_nil))) (fun _ _ => rfl)) pa_nil)))))
  pss_nil))))
  (pss_cons (ps_set (i := 5) sc__law_kinds.nd rfl (Or.inl rfl) (pe_op (catL K) (pv 5) (pe_lst (pa_cons (pv 10) (pa_cons (pe_revT K (pv 10)) (pa_cons (pe_slice (slA K) (pv 10) po_none (po_some pe_int)) (pa_cons (pe_callTy (lstOf K) (by rfl) T.g_list (by decide +kernel) (pa_cons (pv 10) pa_nil)) (pa_cons (pe_op (catA K) (pe_slice (slA K) (pv 10) po_none (po_some pe_int)) (pe_slice (slA K) (pv 10) (po_some pe_int) po_none)) (pa_cons (pe_tup (pa_cons (pv 9) (pa_cons (pe_call (ok__law_take T) (hr.mono (by decide)) rfl T.m__law_take T.F__law_take.kp (b__law_take T) .nil pass0 (pa_cons (pv 0) (pa_cons (pv 4) pa_nil))) pa_nil))) pa_nil)))))))))
  (pss_one (ps_set (i := 5) sc__law_kinds.nd rfl (Or.inl rfl) (pe_op (catL K) (pv 5) (pe_lst (pa_cons (pe_callTy (tupOf K) (by rfl) T.g_tuple (by decide +kernel) (pa_cons (pe_lc (own := [("_law_x", 13)]) (g := gName 13) rfl sc__law_kinds.nd (piT K (pv 10)) (blkOk_by (N := ["_law_s", "_law_book", "_law_ties", "_law_near", "_law_size", "_law_asked", "_law_k", "_law_thing", "_law_due_here", "_law_here", "_law_row", "_law_n", "_law_above", "_law_x", "_law_tie"]) (sc := defScope s__law_kinds) (by decide +kernel)) (fun _ _ _ _ _ => (pg_name (i := 13) (x := "_law_x") sc__law_kinds.nd rfl (Or.inl rfl))) (fun _ _ _ _ _ => pts_nil) (fun _ _ _ _ _ => (pe_ifExp (pt_cmpR op_eq (pv 13) pe_int (nomark _)) pe_bl (pv 13)))) pa_nil)) (pa_cons (pe_op (catA K) (pv 10) (pe_tup (pa_cons (pv 4) pa_nil))) (pa_cons (pe_op (catA K) (pv 10) (pe_slice (slA K) (pv 10) (po_some (pe_un un_neg pe_int)) po_none)) pa_nil))))))))))))
  (pss_cons (ps_for PassesOwn.never rfl (piL K (pe_op (catL K) (pv 5) (pe_lst (pa_cons (pe_tup pa_nil) (pa_cons pe_non (pa_cons pe_int (pa_cons pe_str (pa_cons (pe_tup (pa_cons pe_int (pa_cons pe_non pa_nil))) (pa_cons (pe_tup (pa_cons (pe_un un_neg pe_int) (pa_cons pe_int pa_nil))) (pa_cons (pe_tup (pa_cons (pe_tup (pa_cons pe_int (pa_cons pe_int pa_nil))) pa_nil)) (pa_cons (pe_tup (pa_cons pe_int (pa_cons pe_bl pa_nil))) (pa_cons (pe_tup (pa_cons pe_bl (pa_cons pe_int pa_nil))) (pa_cons (pe_lst (pa_cons pe_int (pa_cons pe_int pa_nil))) pa_nil))))))))))))) (pg_name (i := 7) (x := "_law_thing") sc__law_kinds.nd rfl (Or.inr rfl))
  (pss_cons (ps_set (i := 8) sc__law_kinds.nd rfl (Or.inl rfl) (pe_cmpR op_gt (pe_callB (lenS K) (by rfl) T.g_len (by decide +kernel) (pa_cons (pe_lc (own := [("_law_tie", 14)]) (g := gName 14) rfl sc__law_kinds.nd (piL K (pv 2)) (blkOk_by (N := ["_law_s", "_law_book", "_law_ties", "_law_near", "_law_size", "_law_asked", "_law_k", "_law_thing", "_law_due_here", "_law_here", "_law_row", "_law_n", "_law_above", "_law_x", "_law_tie"]) (sc := defScope s__law_kinds) (by decide +kernel)) (fun _ _ _ _ _ => (pg_name (i := 14) (x := "_law_tie") sc__law_kinds.nd rfl (Or.inl rfl))) (fun _ _ _ _ _ => (pts_one (pt_val (pe_call (ok__law_same T) (hr.mono (by decide)) rfl T.m__law_same T.F__law_same.kp (b__law_same T) .nil pass0 (pa_cons (pv 7) (pa_cons (pv 14) pa_nil)))))) (fun _ _ _ _ _ => (pv 14))) pa_nil)) pe_int (nomark _)))
  (pss_one (ps_if (pt_not (pt_val (pe_call (ok__law_same T) (hr.mono (by decide)) rfl T.m__law_same T.F__law_same.kp (b__law_same T) .nil pass0 (pa_cons (pe_tup (pa_cons (pe_call (ok_is_tie T) (hr.mono (by decide)) rfl T.m_is_tie T.F_is_tie.kp (b_is_tie T) .nil pass0 (pa_cons (pv 1) (pa_cons (pv 7) pa_nil))) (pa_cons (pe_call (ok_is_row T) (hr.mono (by decide)) rfl T.m_is_row T.F_is_row.kp (b_is_row T) .nil pass0 (pa_cons (pv 1) (pa_cons (pv 7) pa_nil))) pa_nil))) (pa_cons (pe_tup (pa_cons (pv 8) (pa_cons (pe_call (ok__law_is_row T) (hr.mono (by decide)) rfl T.m__law_is_row T.F__law_is_row.kp (b__law_is_row T) .nil pass0 (pa_cons (pv 3) (pa_cons (pv 7) pa_nil))) pa_nil))) pa_nil))))) (pss_one (ps_ret pe_bl))
  pss_nil))))
  (pss_cons (ps_set (i := 8) sc__law_kinds.nd rfl (Or.inl rfl) (pe_cmpR (inD K (hu65 hr)) (pe_tup (pa_cons pe_int (pa_cons pe_int pa_nil))) (pv 2) (by with_unfolding_all rfl)))
  (pss_one (ps_ret (pe_call (ok__law_same T) (hr.mono (by decide)) rfl T.m__law_same T.F__law_same.kp (b__law_same T) .nil pass0 (pa_cons (pe_tup (pa_cons (pe_callKO (ok_is_tie T) (hr.mono (by decide)) rfl T.m_is_tie T.F_is_tie.kp (kb_is_tie_thing_book T) pass0 (pk_cons (pe_tup (pa_cons pe_int (pa_cons pe_int pa_nil))) (pk_cons (pv 1) pk_nil))) (pa_cons (pe_callKO (ok_is_row T) (hr.mono (by decide)) rfl T.m_is_row T.F_is_row.kp (kb_is_row_thing_book T) pass0 (pk_cons (pe_tup (pa_cons pe_int (pa_cons pe_int pa_nil))) (pk_cons (pv 1) pk_nil))) pa_nil))) (pa_cons (pe_tup (pa_cons (pv 8) (pa_cons (pv 8) pa_nil))) pa_nil)))))))))), ?_⟩
    obtain ⟨N, nvs, rfl, hN, hzN, rN⟩ := hn.lstA
    have ln : nvs.length = nr.length := by rw [rN.length, List.length_map]
    refine ⟨_, rfl, N, _, rfl, .inl ((hide_same _ _).seq hN), ?_⟩
    refine ⟨(by show 0 ≤ sizeLine; decide), fun A0 hA0 => ?_⟩
    have sA := same_upd (o := .lst []) hA0
    have mA := (Mv.refl st).then sA
    have rA : Rp K (hide S (upd H A0 (.lst []))) (.ref A0) (.list []) := rp_lstNew (free_ne st hA0) .nil hA0 (by decide)
    have en : ((nvs.length : Nat) : Int) = n := by rw [ln]; exact ok.lr
    rw [en]
    refine ⟨4, rfl, by decide, by decide, ?_⟩
    refine for_range (lo := 0) (n := 4) (fun i σ H1 => ∃ va ds v6 v7 v8 v9 v10 v11 v12 v13 v14, σ = [some (.ref S), some v, some vt, some (.ref N), some (.int n), some va, v6, v7, v8, v9, v10, v11, v12, v13, v14] ∧ Mv S p H H1 ∧ Rp K (hide S H1) va (.list ds) ∧ ds.length = i * 9)
      ⟨_, _, none, none, none, none, none, none, none, none, none, rfl, mA, rA, rfl⟩ (fun i σ H1 hi ⟨va, ds, v6, v7, v8, v9, v10, v11, v12, v13, v14, e1, m1, ra, la⟩ => ?_) (fun σ H1 ⟨va, ds, v6, v7, v8, v9, v10, v11, v12, v13, v14, e1, m1, ra, la⟩ => ?_)
    · subst e1
      have hn0 := ok.n0
      have hn1 := ok.n1
      refine ⟨_, rfl, _, rfl, S, p, n, rfl, m1.ok, by omega, by omega, fun here H2 h0 h1 m2 => ?_⟩
      refine ⟨_, rfl, (by show 1 ≤ sizeLine; decide), fun R0 hR0 => ?_⟩
      have m12 := m1.trans m2
      have m13 := m12.then (same_upd (o := .tup [V.int here]) hR0)
      have rR : Rp K (hide S (upd H2 R0 (.tup [V.int here]))) (.ref R0) (dTup ([] ++ [here])) := rp_tupNew (free_ne m12.ok hR0) (.one (.int _)) hR0 (by show 1 ≤ 1000; decide)
      have ra13 := (m2.then (same_upd (o := .tup [V.int here]) hR0)).rp ra
      refine ⟨_, rfl, S, p, 3, rfl, m13.ok, by decide, by decide, fun z H3 z0 z1 m3 => ⟨_, _, rfl, rfl, _, rfl, by omega, by omega, ?_⟩⟩
      have m14 := m13.trans m3
      refine for_range (lo := 0) (n := (1 + z).toNat) (fun j σ H4 => ∃ vr ini lst v11 v12 v13 v14, σ = [some (.ref S), some v, some vt, some (.ref N), some (.int n), some va, some (.int (0 + (i : Nat))), v7, v8, some (.int here), some vr, v11, v12, v13, v14] ∧ Mv S p H H4 ∧ Rp K (hide S H4) va (.list ds) ∧ Rp K (hide S H4) vr (dTup (ini ++ [lst])) ∧ (0 ≤ lst ∧ lst < n) ∧ ini.length ≤ j)
        ⟨_, [], here, _, _, _, _, rfl, m14, m3.rp ra13, m3.rp rR, ⟨h0, h1⟩, Nat.le_refl _⟩ (fun j σ H4 hj ⟨vr, ini, lst, v11, v12, v13, v14, e4, m4, ra4, rr4, hl4, hi4⟩ => ?_) (fun σ H4 ⟨vr, ini, lst, v11, v12, v13, v14, e4, m4, ra4, rr4, hl4, hi4⟩ => ?_)
      · subst e4
        obtain ⟨R, rfl, tR⟩ := (rp_show rr4).tupI
        have rN4 := m4.all rN
        have hN4 := m4.same.seq hN
        have hlt : lst.toNat < nr.length := by have := ok.lr; omega
        obtain ⟨x, hx, rx⟩ := (rN4.same (hide_same _ _)).getD (i := lst.toNat) (d := dLst (nr.getD lst.toNat [])) (by rw [List.getElem?_map, List.getElem?_eq_getElem hlt, List.getD_eq_getElem?_getD, List.getElem?_eq_getElem hlt]; rfl)
        obtain ⟨B, rfl, tB⟩ := rx.lstI
        have at1 : atI ((ini ++ [lst]).map V.int) (-1) = some (.int lst) := by
          rw [List.map_append]
          exact atI_last _ _
        have hinr := ok.inr _ (show nr.getD lst.toNat [] ∈ nr by rw [List.getD_eq_getElem?_getD, List.getElem?_eq_getElem hlt]; exact List.getElem_mem hlt)
        generalize nr.getD lst.toNat [] = bs at tB hinr
        refine ⟨_, rfl, _, rfl, _, rfl, R, _, _, _, rfl, rfl, tR.1, at1, N, _, _, _, rfl, rfl, (hide_same _ _).seq hN4, at_of (j := lst.toNat) (by omega) hx, B, rfl, ⟨_, tB.1⟩, fun D hD => ?_⟩
        have mst := m4.ok
        refine lcL (K := K) (xs := bs.map V.int) (fun j => decide (lst < bs.getD j 0)) (fun j => .int (bs.getD j 0)) hD tB.1 (by rw [List.length_map]; exact tB.2) (fun _ _ _ => rfl) (fun y w5 H5 hy5 s5 Q5 Q6 k5 k6 => ?_) (fun ys H5 s5 hy r5 => ?_)
        · obtain ⟨i5, hi5, rfl⟩ : ∃ i5, bs[y]? = some i5 ∧ w5 = .int i5 := by
            rw [List.getElem?_map] at hy5
            cases e : bs[y]? with
            | none => rw [e] at hy5; cases hy5
            | some i5 => rw [e] at hy5; exact ⟨i5, rfl, (Option.some.inj hy5).symm⟩
          have eg : bs.getD y 0 = i5 := by rw [List.getD_eq_getElem?_getD, hi5]; rfl
          rw [eg] at k5 k6
          refine ⟨rfl, _, rfl, _, rfl, _, rfl, R, _, _, _, rfl, rfl, (tR.same s5).1, at1, _, _, rfl, rfl, _, rfl, ?_⟩
          show if decide (lst < i5) = true then _ else _
          cases c : decide (lst < i5) with
          | false => exact iteF (k6 c _ (Same.refl _))
          | true => exact iteT ⟨_, rfl, k5 c _ _ (Same.refl _) (.int _)⟩
        · have ez : ((List.range (bs.map V.int).length).filter fun j => decide (lst < bs.getD j 0)).map (fun j => PyData.int (bs.getD j 0)) = (bs.filter fun x => decide (lst < x)).map PyData.int := by
            rw [List.length_map]
            exact filter_map_range (fun x : Int => decide (lst < x)) PyData.int 0 bs
          rw [ez] at r5
          have := r5.ofInts
          subst this
          have lab : (bs.filter fun x => decide (lst < x)).length ≤ 1000 := Nat.le_trans (List.length_filter_le _ _) tB.2
          have inab : ∀ x ∈ bs.filter fun x => decide (lst < x), 0 ≤ x ∧ x < n := fun x hx => hinr x (List.mem_filter.mp hx).1
          generalize (bs.filter fun x => decide (lst < x)) = ab at *
          have m5 := m4.then s5
          have DS := free_ne m4.ok hD
          have mv5 := (Mv.refl m4.ok).then s5
          refine ⟨_, rfl, D, _, rfl, .inl (SqL.of hy), _, _, rfl, rfl, _, rfl, ?_⟩
          rw [List.length_map]
          by_cases c : 0 < ab.length
          rotate_left
          · rw [decide_eq_false (show ¬ (0 : Int) < ((ab.length : Nat) : Int) by omega)]
            exact iteF ⟨_, ini, lst, _, _, _, _, rfl, m5, mv5.rp ra4, mv5.rp rr4, hl4, by omega⟩
          · rw [decide_eq_true (show (0 : Int) < ((ab.length : Nat) : Int) by omega)]
            refine iteT ⟨_, rfl, _, rfl, _, rfl, _, rfl, D, _, rfl, .inl (SqL.of hy), S, p, _, rfl, m5.ok, ?_, ?_, fun y H6 y0 y1 m6 => ?_⟩
            · rw [List.length_map]; omega
            · rw [List.length_map]; omega
            rw [List.length_map] at y1
            have hyl : y.toNat < ab.length := by omega
            refine ⟨D, _, _, _, rfl, rfl, SqL.of (m6.get DS hy), at_of (j := y.toNat) (by omega) (mapD hyl), (by show 1 ≤ sizeLine; decide), fun q hq => ?_⟩
            have gx : 0 ≤ ab.getD y.toNat 0 ∧ ab.getD y.toNat 0 < n := inab _ (by rw [List.getD_eq_getElem?_getD, List.getElem?_eq_getElem hyl]; exact List.getElem_mem hyl)
            generalize ab.getD y.toNat 0 = gg at gx ⊢
            have s7 := same_upd (o := .tup [V.int gg]) hq
            have m7 := (mv5.trans m6).then s7
            obtain ⟨R2, eR2, tR2⟩ := (rp_show (m7.rp rr4)).tupI
            cases eR2
            refine catA_use tR2.1 (SqT.of upd_same) ?_ fun q2 H8 s8 hq2 => ?_
            · rw [List.length_map, List.length_append]
              show ini.length + 1 + 1 ≤ 2000
              omega
            have m8 := m7.then s8
            have e8 : (ini ++ [lst]).map V.int ++ [V.int gg] = ((ini ++ [lst]) ++ [gg]).map V.int := by rw [List.map_append (l₂ := [gg])]; rfl
            rw [e8] at hq2
            refine ⟨_, ini ++ [lst], gg, _, _, _, _, rfl, m4.trans m8, m8.rp ra4, rp_hide m8.ok (noL_dTup _) (TupI.rp ⟨hq2, ?_⟩), gx, ?_⟩
            · rw [List.length_append, List.length_append]
              show ini.length + 1 + 1 ≤ 1000
              omega
            · rw [List.length_append]
              show ini.length + 1 ≤ j + 1
              omega
      · subst e4
        have hT5 : TupLe 5 (dTup (ini ++ [lst])) := ⟨_, rfl, by rw [List.length_map, List.length_append]; show ini.length + 1 ≤ 5; omega⟩
        have st4 := m4.ok
        try dsimp only [gName, tSeq, tAsg, tRet]
        refine p_useO (S := S) (p := p) (K := K) (G := LstEq (i * 9 + 6)) (p_catL (p_var rfl ra4 ⟨ds, rfl, la⟩) (p_lst (q_cons (p_var (G := AnyD) rfl rr4 trivial) (q_cons (p_revT (p_var rfl rr4 hT5)) (q_cons (p_sl (p_var rfl rr4 hT5) part_no part_int) (q_cons (p_listOf (p_var rfl rr4 hT5)) (q_cons (p_catT (p_sl (p_var rfl rr4 hT5) part_no part_int) (p_sl (p_var rfl rr4 hT5) part_int part_no) (by decide)) (q_cons (p_tup (q_cons (p_var (G := AnyD) rfl (.int here) trivial) (q_cons (G := AnyD) (fun H Q mv k => ⟨_, rfl, _, rfl, S, p, n, rfl, mv.ok, by omega, by omega, fun z H2 z0 z1 m2 => k _ (.int z) _ trivial m2 (.int z)⟩) q_nil))) q_nil))))))) (by omega)) st4 fun va2 d2 H5 g5 m5 r5 => ?_
        obtain ⟨ds2, rfl, la2⟩ := g5
        have rr5 := m5.rp rr4
        try dsimp only [gName, tSeq, tAsg, tRet]
        refine p_useO (S := S) (p := p) (K := K) (G := LstEq (i * 9 + 6 + 3)) (p_catL (p_var rfl r5 ⟨ds2, rfl, la2⟩) (p_lst (q_cons (G := AnyD) ?comp (q_cons (p_catT (p_var rfl rr5 hT5) (p_tup (q_cons (p_var (G := AnyD) rfl (.int n) trivial) q_nil)) (by decide)) (q_cons (p_catT (p_var rfl rr5 hT5) (p_sl (p_var rfl rr5 hT5) part_neg part_no) (by decide)) q_nil)))) (by omega)) m5.ok fun va3 d3 H6 g6 m6 r6 => ?_
        case comp =>
          intro H7 Q7 m7 k7
          obtain ⟨R, rfl, tR⟩ := (rp_show (m7.rp rr5)).tupI
          generalize ini ++ [lst] = rs at tR
          refine ⟨_, rfl, R, rfl, ⟨_, tR.1⟩, fun D hD => ?_⟩
          refine lcT (K := K) (xs := rs.map V.int) (fun _ => true) (fun j => if rs.getD j 0 = 1 then .bool true else .int (rs.getD j 0)) hD tR.1 (by rw [List.length_map]; exact tR.2) (fun j _ _ => by split <;> rfl) (fun y w5 H8 hy5 s5 Q5 Q6 k5 k6 => ?_) (fun ys H8 s5 hy r5 => ?_)
          · obtain ⟨i5, hi5, rfl⟩ : ∃ i5, rs[y]? = some i5 ∧ w5 = .int i5 := by
              rw [List.getElem?_map] at hy5
              cases e : rs[y]? with
              | none => rw [e] at hy5; cases hy5
              | some i5 => rw [e] at hy5; exact ⟨i5, rfl, (Option.some.inj hy5).symm⟩
            have eg : rs.getD y 0 = i5 := by rw [List.getD_eq_getElem?_getD, hi5]; rfl
            rw [eg] at k5
            refine ⟨rfl, _, rfl, rfl, _, rfl, ?_⟩
            by_cases c : i5 = 1
            · rw [if_pos c] at k5
              rw [decide_eq_true (show V.int i5 = V.int 1 by rw [c])]
              exact iteT (k5 rfl _ _ (Same.refl _) (.bl _))
            · rw [if_neg c] at k5
              rw [decide_eq_false (show ¬ V.int i5 = V.int 1 from fun z => c (by injection z))]
              exact iteF ⟨_, rfl, k5 rfl _ _ (Same.refl _) (.int _)⟩
          · dsimp only [tNil]
            refine tupL_use (SqL.of hy) fun q H9 s9 hq => ?_
            have m9 := (Mv.refl m7.ok).then (s5.trans s9)
            obtain ⟨zs9, hS9⟩ := m9.ok.atS
            have hn9 : noLs (((List.range (rs.map V.int).length).filter fun _ => true).map fun j => if rs.getD j 0 = 1 then PyData.bool true else .int (rs.getD j 0)) = true := all_noL fun d hd => by
              obtain ⟨j, _, rfl⟩ := List.mem_map.mp hd
              split <;> rfl
            refine k7 _ _ _ trivial m9 (.tup (seqT_hide hS9 hq) ?_ (rpAll_hideL hS9 hn9 (r5.same s9)))
            rw [r5.length, filter_true, List.length_map, List.length_range, List.length_map]
            exact tR.2
        obtain ⟨ds3, rfl, la3⟩ := g6
        exact ⟨_, ds3, _, _, _, _, _, _, _, _, _, rfl, (m4.trans m5).trans m6, r6, by omega⟩
    · subst e1
      dsimp only
      refine at_seq (at_for ?_)
      refine p_useF (S := S) (p := p) (K := K) (G := LstEq (4 * 9 + 10)) (p_catL (p_var rfl ra ⟨ds, rfl, la⟩) (p_lst (q_cons (p_ofA (y_tup ya_nil)) (q_cons (p_ofA y_non) (q_cons (p_ofA y_int) (q_cons (p_ofA y_str) (q_cons (p_ofA (y_tup (ya_cons y_int (ya_cons y_non ya_nil)))) (q_cons (p_ofA (y_tup (ya_cons (y_neg y_int) (ya_cons y_int ya_nil)))) (q_cons (p_ofA (y_tup (ya_cons (y_tup (ya_cons y_int (ya_cons y_int ya_nil))) ya_nil))) (q_cons (p_ofA (y_tup (ya_cons y_int (ya_cons y_bl ya_nil)))) (q_cons (p_ofA (y_tup (ya_cons y_bl (ya_cons y_int ya_nil)))) (q_cons (p_ofA (y_lst (ya_cons y_int (ya_cons y_int ya_nil)))) q_nil))))))))))) (by decide)) m1.ok fun va2 d2 H2 g2 m2 r2 => ?_
      obtain ⟨ds2, rfl, la2⟩ := g2
      obtain ⟨A, xs, rfl, hA, hzA, rA2⟩ := r2.lstA
      have m12 := m1.trans m2
      obtain ⟨TA, tvs, rfl, hT, hzT, rT⟩ := ht.lstA
      refine ⟨A, rfl, ⟨xs, (hide_same _ _).seq hA⟩, ?_⟩
      refine for_list (K := K) (a := A) (xs := xs) (fun i σ H3 => ∃ v7 v8, σ = [some (.ref S), some v, some (.ref TA), some (.ref N), some (.int n), some va, v6, v7, v8, v9, v10, v11, v12, v13, v14] ∧ Mv S p H2 H3)
        ⟨_, _, rfl, Mv.refl m12.ok⟩ (fun i σ H3 hi ⟨v7, v8, e3, m3⟩ => (hide_same _ _).seq (m3.same.seq hA)) (fun i x σ H3 hx ⟨v7, v8, e3, m3⟩ => ?_) (fun σ H3 ⟨v7, v8, e3, m3⟩ => ?_)
      · subst e3
        obtain ⟨d, hd, rx⟩ := rA2.get hx
        have m13 := m12.trans m3
        have rx3 := rp_show (m3.rp rx)
        have sT3 : SqL K H3 TA tvs := (hide_same _ _).seq (m13.same.seq hT)
        have rT3 : RpAll K H3 tvs (TT.map dTup) := (m13.all rT).same (hide_same _ _)
        have lT : tvs.length = TT.length := by rw [rT3.length, List.length_map]
        refine ⟨_, rfl, TA, rfl, ⟨_, sT3⟩, fun D hD => ?_⟩
        have pBx : ∃ pB : Nat → Bool, ∀ j, pB j = true ↔ d = dTup (TT.getD j []) := ⟨fun j => @decide (d = dTup (TT.getD j [])) (Classical.propDecidable _), fun j => by simp⟩
        obtain ⟨pB, hpB⟩ := pBx
        refine lcLV (K := K) (xs := tvs) pB (fun j => tvs.getD j .non) hD sT3 hzT (fun j y H4 hj s4 Q5 Q6 k5 k6 => ?_) (fun H4 s4 hy => ?_)
        · obtain ⟨e, he, ry⟩ := rT3.get hj
          have he2 : e = dTup (TT.getD j []) := by
            rw [List.getElem?_map] at he
            cases e5 : TT[j]? with
            | none => rw [e5] at he; cases he
            | some r =>
              rw [e5] at he
              rw [List.getD_eq_getElem?_getD, e5]
              exact (Option.some.inj he).symm
          subst he2
          have ey : tvs.getD j .non = y := by rw [List.getD_eq_getElem?_getD, hj]; rfl
          rw [ey] at k5
          refine ⟨rfl, _, rfl, _, rfl, x, y, d, _, rfl, rx3.same s4, ry.same s4, noL_dTup _, deep_row _, fun b H5 s5 e5 => ⟨_, rfl, ?_⟩⟩
          cases b with
          | true => exact iteT ⟨_, rfl, k5 ((hpB j).mpr (e5.mp rfl)) _ s5⟩
          | false =>
            refine iteF (k6 ?_ _ s5)
            cases c : pB j with
            | false => rfl
            | true => exact absurd (e5.mpr ((hpB j).mp c)) (by decide)
        · have hlen : decide ((0 : Int) < (((((List.range tvs.length).filter pB).map fun j => tvs.getD j .non).length : Nat) : Int)) = isTie n rows d := by
            rw [List.length_map]
            have hq : (0 : Int) < ((((List.range tvs.length).filter pB).length : Nat) : Int) ↔ isTie n rows d = true := by
              rw [ok.tie d]
              constructor
              · intro h
                obtain ⟨j, hj⟩ := List.exists_mem_of_length_pos (show 0 < ((List.range tvs.length).filter pB).length by omega)
                obtain ⟨h1, h2⟩ := List.mem_filter.mp hj
                have h3 := List.mem_range.mp h1
                have h4 := (hpB j).mp h2
                rw [lT] at h3
                rw [h4, mem_rows, List.getD_eq_getElem?_getD, List.getElem?_eq_getElem h3]
                exact List.getElem_mem h3
              · intro h
                obtain ⟨r, hr, e⟩ := List.mem_map.mp h
                obtain ⟨j, hj, ej⟩ := List.getElem_of_mem hr
                have : j ∈ (List.range tvs.length).filter pB := List.mem_filter.mpr ⟨List.mem_range.mpr (by omega), (hpB j).mpr (by rw [← e, List.getD_eq_getElem?_getD, List.getElem?_eq_getElem hj, ← ej]; rfl)⟩
                have := List.length_pos_of_mem this
                omega
            cases c : isTie n rows d with
            | true => exact decide_eq_true (hq.mpr c)
            | false => exact decide_eq_false fun h => by rw [hq.mp h] at c; cases c
          have m4 := m13.then s4
          refine ⟨D, _, rfl, .inl (SqL.of hy), _, _, rfl, rfl, ?_⟩
          dsimp only
          rw [hlen]
          have rb4 := rp_show (m4.rp hv)
          have rx4 := rx3.same s4
          have rn4 : Rp K H4 (.ref N) (.list (nr.map dLst)) := rp_show (m4.rp (.lst hN hzN rN))
          refine ⟨_, rfl, _, rfl, v, x, d, n, rows, rfl, rb4, rx4, fun H5 s5 => ⟨_, rfl, _, rfl, v, x, d, n, rows, rfl, rb4.same s5, rx4.same s5, fun H6 s6 => ⟨(by show 2 ≤ sizeLine; decide), fun q hq => ?_⟩⟩⟩
          have s7 := same_upd (o := .tup [V.bl (isTie n rows d), V.bl (isRow n rows d)]) hq
          have rq : Rp K (upd H6 q (.tup [V.bl (isTie n rows d), V.bl (isRow n rows d)])) (.ref q) (.tuple [.bool (isTie n rows d), .bool (isRow n rows d)]) := .tup (SqT.of upd_same) (by show 2 ≤ 1000; decide) (.two (.bl _) (.bl _))
          have s57 := s5.trans (s6.trans s7)
          refine ⟨_, rfl, _, rfl, _, rfl, .ref N, x, nr, d, rfl, rn4.same s57, rx4.same s57, fun H8 s8 => ⟨(by show 2 ≤ sizeLine; decide), fun q2 hq2 => ?_⟩⟩
          have s9 := same_upd (o := .tup [V.bl (isTie n rows d), V.bl (isRowL nr d)]) hq2
          have rq2 : Rp K (upd H8 q2 (.tup [V.bl (isTie n rows d), V.bl (isRowL nr d)])) (.ref q2) (.tuple [.bool (isTie n rows d), .bool (isRow n rows d)]) := .tup (SqT.of upd_same) (by show 2 ≤ 1000; decide) (.two (.bl _) (by rw [ok.row d]; exact .bl _))
          refine ⟨.ref q, .ref q2, _, _, rfl, rq.same (s8.trans s9), rq2, rfl, by show 1 ≤ 4; decide, fun b H10 s10 e10 => ?_⟩
          have eb : b = true := e10.mpr rfl
          subst eb
          exact ⟨_, rfl, iteF ⟨_, _, rfl, m3.then (s4.trans (s57.trans (s8.trans (s9.trans s10))))⟩⟩
      · subst e3
        have m13 := m12.trans m3
        have rT3 : Rp K H3 (.ref TA) (.list (TT.map dTup)) := rp_show (m13.rp (.lst hT hzT rT))
        refine ⟨(by show 2 ≤ sizeLine; decide), fun q hq => ⟨_, rfl, ?_⟩⟩
        have s4 := same_upd (o := .tup [V.int 0, V.int 1]) hq
        have rq : Rp K (upd H3 q (.tup [V.int 0, V.int 1])) (.ref q) (dTup [0, 1]) := .tup (SqT.of upd_same) (by show 2 ≤ 1000; decide) (.two (.int _) (.int _))
        refine ⟨dTup [0, 1], TT.map dTup, rq.dp, (rT3.same s4).dp, shaped_row _, shaped_rows _, ?_⟩
        have ea : ((TT.map dTup).any fun z => PyData.eqv z (dTup [0, 1])) = isTie n rows (dTup [0, 1]) := by
          rw [Bool.eq_iff_iff, any_rows, ok.tie]
        rw [ea]
        have m4 := m13.then s4
        have rb4 := rp_show (m4.rp hv)
        have er := row_two n rows 0 1
        refine ⟨(by show 2 ≤ sizeLine; decide), fun q1 hq1 => ?_⟩
        have s5 := same_upd (o := .tup [V.int 0, V.int 1]) hq1
        have rq1 := rp_pair (K := K) hq1 (.int 0) (.int 1)
        refine ⟨_, rfl, v, .ref q1, dTup [0, 1], n, rows, rfl, rb4.same s5, rq1, fun H6 s6 => ⟨(by show 2 ≤ sizeLine; decide), fun q2 hq2 => ?_⟩⟩
        have s7 := same_upd (o := .tup [V.int 0, V.int 1]) hq2
        have rq2 : Rp K (upd H6 q2 (.tup [V.int 0, V.int 1])) (.ref q2) (dTup [0, 1]) := .tup (SqT.of upd_same) (by show 2 ≤ 1000; decide) (.two (.int _) (.int _))
        have s57 := s5.trans (s6.trans s7)
        refine ⟨_, rfl, v, .ref q2, dTup [0, 1], n, rows, rfl, rb4.same s57, rq2, fun H8 s8 => ⟨(by show 2 ≤ sizeLine; decide), fun q3 hq3 => ?_⟩⟩
        have s9 := same_upd (o := .tup [V.bl (isTie n rows (dTup [0, 1])), V.bl (isRow n rows (dTup [0, 1]))]) hq3
        have rq3 : Rp K (upd H8 q3 (.tup [V.bl (isTie n rows (dTup [0, 1])), V.bl (isRow n rows (dTup [0, 1]))])) (.ref q3) (.tuple [.bool (isTie n rows (dTup [0, 1])), .bool (isTie n rows (dTup [0, 1]))]) := .tup (SqT.of upd_same) (by show 2 ≤ 1000; decide) (.two (.bl _) (by rw [er]; exact .bl _))
        refine ⟨_, rfl, _, rfl, (by show 2 ≤ sizeLine; decide), fun q4 hq4 => ?_⟩
        have s10 := same_upd (o := .tup [V.bl (isTie n rows (dTup [0, 1])), V.bl (isTie n rows (dTup [0, 1]))]) hq4
        have rq4 := rp_pair (K := K) hq4 (.bl (isTie n rows (dTup [0, 1]))) (.bl (isTie n rows (dTup [0, 1])))
        refine ⟨.ref q3, .ref q4, _, _, rfl, rq3.same s10, rq4, rfl, by show 1 ≤ 4; decide, fun b H11 s11 e11 => ?_⟩
        have eb : b = true := e11.mpr rfl
        subst eb
        exact k _ (m4.then (s57.trans (s8.trans (s9.trans (s10.trans s11)))))
end
end LK
namespace LK
open PySem PySem.Spec PyProof.Rows L2
theorem near_len (n : Int) (rows : List (List Int)) (x : Int) (h : n ≤ 1000) : (natI (nearN n rows x)).length ≤ 1000 := by
  unfold natI nearN
  rw [List.length_map]
  refine Nat.le_trans (List.length_filter_le _ _) ?_
  rw [List.length_range]
  omega
theorem seqL_hide {K : PySem.W.Frag} {H : Hp} {S a : Addr} {xs : List V} (h : a ≠ S) (s : SqL K H a xs) : SqL K (hide S H) a xs := by
  rcases s with (s | ⟨o, s⟩) | s
  · exact .inl (.inl (by rw [hide_ne h]; exact s))
  · exact .inl (.inr ⟨o, by rw [hide_ne h]; exact s⟩)
  · exact .inr s
theorem deep_rows : ∀ T : List (List Int), deepDs (T.map dTup) ≤ 1
  | [] => Nat.zero_le _
  | r :: T => by
    rw [List.map_cons]
    unfold deepDs
    have h1 := deep_rows T
    have h2 : deepD (dTup r) = 1 := by
      show deepDs (r.map PyData.int) + 1 = 1
      rw [deep_ints]
    rw [h2]
    omega
theorem deep_three (T : List (List Int)) (i : Int) : deepD (.tuple [.tuple (T.map dTup), .tuple (T.map dTup), .int i]) ≤ 4 := by
  have h := deep_rows T
  show max (deepDs (T.map dTup) + 1) (max (deepDs (T.map dTup) + 1) (max 0 0)) + 1 ≤ 4
  omega
theorem noL_three (T : List (List Int)) (i : Int) : noL (.tuple [.tuple (T.map dTup), .tuple (T.map dTup), .int i]) = true := by
  have h := noLs_rows T
  show (noLs (T.map dTup) && (noLs (T.map dTup) && (true && true))) = true
  rw [h]
  rfl
theorem isBook_good {n : Int} {rows : List (List Int)} (h1 : 1 ≤ n) (h : ∀ r ∈ rows, GoodRow n r) : isBook (bookD n rows) = true := by
  show (decide (1 ≤ n) && (rows.map dTup).all (isListed n)) = true
  rw [decide_eq_true h1, Bool.true_and, List.all_map]
  refine List.all_eq_true.mpr fun r hr => ?_
  obtain ⟨h2, h3, h4⟩ := h r hr
  show (isLot n (dTup r) && decide (2 ≤ (dInts (dTup r)).length)) = true
  unfold isLot
  rw [goodRow_below h4, dInts_tup, h3, decide_eq_true h2]
  rfl
theorem rp_tri {K : PySem.W.Frag} {H : Hp} {q : Addr} {x y z : V} {d e f : PyData} (hq : H q = none) (r1 : Rp K H x d) (r2 : Rp K H y e) (r3 : Rp K H z f) : Rp K (upd H q (.tup [x, y, z])) (.ref q) (.tuple [d, e, f]) :=
  .tup (SqT.of upd_same) (by show 3 ≤ 1000; decide) (.cons (r1.same (same_upd hq)) (.two (r2.same (same_upd hq)) (r3.same (same_upd hq))))
section
variable {P : Program} {w : World} {K : PySem.W.Frag} {mg : Str → Option Value} {base : Heap} {ad : Nat → Addr} {fd : Nat → FuncData}
def spLook (K : PySem.W.Frag) : Sp := fun vs H Q _ => ∃ (S p : Addr) (v vn vl : V) (names : List Int) (rows : List (List Int)) (B : Int), vs = [.ref S, v, vn, vl] ∧ StOk H S p ∧ Rp K (hide S H) v (bookD names.length (renum names rows)) ∧ Rp K (hide S H) vn (dLst names) ∧ Rp K (hide S H) vl (.list (rows.map dLst)) ∧
  LabOk names rows B ∧ rows.length ≤ 500 ∧ ∀ H', Mv S p H H' → Q (.bl true) H'
theorem ok__law_look (T : Txt K mg ad fd) : FnOk P w K mg base CX0 11 (ad 63) (fd 63) ["_law_s", "_law_book", "_law_names", "_law_lists"] (spLook K) := by
  refine T.F__law_look.ok sc__law_look (fun vs H Q E h => ?_) (fun cdv A outer s H vs Q E hr h => ?_)
  · obtain ⟨S, p, v, vn, vl, names, rows, B, rfl, _⟩ := h
    rfl
  · obtain ⟨S, p, v, vn, vl, names, rows, B, rfl, st, hv, hn, hl, ok, hlr, k⟩ := h
    refine ⟨_, (pss_cons (ps_set (i := 4) sc__law_look.nd rfl (Or.inl rfl) (pe_call (ok__law_pairs T) (hr.mono (by decide)) rfl T.m__law_pairs T.F__law_pairs.kp (b__law_pairs T) .nil pass0 (pa_cons (pv 2) (pa_cons (pv 3) pa_nil))))
  (pss_cons (ps_set (i := 5) sc__law_look.nd rfl (Or.inr rfl) (pe_lc (own := [("_law_x", 11)]) (g := gName 11) rfl sc__law_look.nd (piL K (pv 2)) (blkOk_by (N := ["_law_s", "_law_book", "_law_names", "_law_lists", "_law_ties", "_law_near", "_law_tie", "_law_k", "_law_here", "_law_there", "_law_due_here", "_law_x", "_law_row"]) (sc := defScope s__law_look) (by decide +kernel)) (fun _ _ _ _ _ => (pg_name (i := 11) (x := "_law_x") sc__law_look.nd rfl (Or.inl rfl))) (fun _ _ _ _ _ => pts_nil) (fun _ _ _ _ _ => (pe_lst pa_nil))))
  (pss_cons (ps_for PassesOwn.never rfl (piL K (pv 4)) (pg_name (i := 6) (x := "_law_tie") sc__law_look.nd rfl (Or.inr rfl))
  (pss_cons (ps_expr (pe_bmK K PySem.F.plainAttrs_list PySem.F.slot_list_append PySem.F.type_list_append mt_append (pe_ix (ixL K) (pv 5) (pe_ix (ixT K) (pv 6) pe_int (fun _ _ => rfl)) (fun _ _ => rfl)) (pa_cons (pe_ix (ixT K) (pv 6) pe_int (fun _ _ => rfl)) pa_nil)))
  (pss_one (ps_expr (pe_bmK K PySem.F.plainAttrs_list PySem.F.slot_list_append PySem.F.type_list_append mt_append (pe_ix (ixL K) (pv 5) (pe_ix (ixT K) (pv 6) pe_int (fun _ _ => rfl)) (fun _ _ => rfl)) (pa_cons (pe_ix (ixT K) (pv 6) pe_int (fun _ _ => rfl)) pa_nil))))))
  (pss_cons (ps_set (i := 5) sc__law_look.nd rfl (Or.inr rfl) (pe_lc (own := [("_law_row", 12)]) (g := gName 12) rfl sc__law_look.nd (piL K (pv 5)) (blkOk_by (N := ["_law_s", "_law_book", "_law_names", "_law_lists", "_law_ties", "_law_near", "_law_tie", "_law_k", "_law_here", "_law_there", "_law_due_here", "_law_x", "_law_row"]) (sc := defScope s__law_look) (by decide +kernel)) (fun _ _ _ _ _ => (pg_name (i := 12) (x := "_law_row") sc__law_look.nd rfl (Or.inl rfl))) (fun _ _ _ _ _ => pts_nil) (fun _ _ _ _ _ => (pe_callB (srtI K) (by rfl) T.g_sorted (by decide +kernel) (pa_cons (pv 12) pa_nil)))))
  (pss_cons (ps_if (pt_not (pt_val (pe_call (ok__law_same T) (hr.mono (by decide)) rfl T.m__law_same T.F__law_same.kp (b__law_same T) .nil pass0 (pa_cons (pe_tup (pa_cons (pe_call (ok_ties_of T) (hr.mono (by decide)) rfl T.m_ties_of T.F_ties_of.kp (b_ties_of T) .nil pass0 (pa_cons (pv 1) pa_nil)) (pa_cons (pe_callKO (ok_ties_of T) (hr.mono (by decide)) rfl T.m_ties_of T.F_ties_of.kp (kb_ties_of_book T) pass0 (pk_cons (pv 1) pk_nil)) (pa_cons (pe_call (ok_lets_book T) (hr.mono (by decide)) rfl T.m_lets_book T.F_lets_book.kp (b_lets_book T) .nil passL (pa_cons (pv 1) pa_nil)) pa_nil)))) (pa_cons (pe_tup (pa_cons (pe_callTy (tupOf K) (by rfl) T.g_tuple (by decide +kernel) (pa_cons (pv 4) pa_nil)) (pa_cons (pe_callTy (tupOf K) (by rfl) T.g_tuple (by decide +kernel) (pa_cons (pv 4) pa_nil)) (pa_cons (pe_callB (lenS K) (by rfl) T.g_len (by decide +kernel) (pa_cons (pv 4) pa_nil)) pa_nil)))) pa_nil))))) (pss_one (ps_ret pe_bl))
  pss_nil)
  (pss_cons (ps_if (pt_not (pt_val (pe_call (ok__law_same T) (hr.mono (by decide)) rfl T.m__law_same T.F__law_same.kp (b__law_same T) .nil pass0 (pa_cons (pe_call (ok_is_book T) (hr.mono (by decide)) rfl T.m_is_book T.F_is_book.kp (b_is_book T) .nil pass0 (pa_cons (pv 1) pa_nil)) (pa_cons pe_bl pa_nil))))) (pss_one (ps_ret pe_bl))
  pss_nil)
  (pss_cons (ps_for PassesOwn.never rfl (pi_range1 rfl T.g_range (pa_cons pe_int pa_nil)) (pg_name (i := 7) (x := "_law_k") sc__law_look.nd rfl (Or.inl rfl))
  (pss_cons (ps_set (i := 8) sc__law_look.nd rfl (Or.inl rfl) (pe_call (ok__law_take T) (hr.mono (by decide)) rfl T.m__law_take T.F__law_take.kp (b__law_take T) .nil pass0 (pa_cons (pv 0) (pa_cons (pe_callB (lenS K) (by rfl) T.g_len (by decide +kernel) (pa_cons (pv 2) pa_nil)) pa_nil))))
  (pss_cons (ps_set (i := 9) sc__law_look.nd rfl (Or.inl rfl) (pe_call (ok__law_take T) (hr.mono (by decide)) rfl T.m__law_take T.F__law_take.kp (b__law_take T) .nil pass0 (pa_cons (pv 0) (pa_cons (pe_callB (lenS K) (by rfl) T.g_len (by decide +kernel) (pa_cons (pv 2) pa_nil)) pa_nil))))
  (pss_cons (ps_if (pt_not (pt_val (pe_call (ok__law_same T) (hr.mono (by decide)) rfl T.m__law_same T.F__law_same.kp (b__law_same T) .nil pass0 (pa_cons (pe_call (ok__law_do T) (hr.mono (by decide)) rfl T.m__law_do T.F__law_do.kp (b__law_do T) .nil passL (pa_cons pe_int (pa_cons (pv 1) (pa_cons (pv 8) (pa_cons (pe_cmpR op_eq (pv 7) pe_int (nomark _)) pa_nil))))) (pa_cons (pe_callTy (tupOf K) (by rfl) T.g_tuple (by decide +kernel) (pa_cons (pe_ix (ixL K) (pv 5) (pv 8) (fun _ _ => rfl)) pa_nil)) pa_nil))))) (pss_one (ps_ret pe_bl))
  pss_nil)
  (pss_cons (ps_set (i := 10) sc__law_look.nd rfl (Or.inl rfl) (pe_cmpR (inS K) (pv 9) (pe_ix (ixL K) (pv 5) (pv 8) (fun _ _ => rfl)) (by with_unfolding_all rfl)))
  (pss_cons (ps_if (PW.pt (pw_and (pt_cmpR op_ne (pv 8) (pv 9) (nomark _)) (pw_and1 (pt_not (pt_val (pe_call (ok__law_same T) (hr.mono (by decide)) rfl T.m__law_same T.F__law_same.kp (b__law_same T) .nil pass0 (pa_cons (pe_call (ok__law_do T) (hr.mono (by decide)) rfl T.m__law_do T.F__law_do.kp (b__law_do T) .nil passL (pa_cons pe_int (pa_cons (pv 1) (pa_cons (pe_tup (pa_cons (pv 8) (pa_cons (pv 9) pa_nil))) (pa_cons (pe_cmpR op_gt (pv 7) pe_int (nomark _)) pa_nil))))) (pa_cons (pv 10) pa_nil)))))))) (pss_one (ps_ret pe_bl))
  pss_nil)
  (pss_one (ps_if (pt_cmpR op_gt (pe_callB (lenS K) (by rfl) T.g_len (by decide +kernel) (pa_cons (pv 4) pa_nil)) pe_int (nomark _)) (pss_cons (ps_set (i := 6) sc__law_look.nd rfl (Or.inr rfl) (pe_ix (ixL K) (pv 4) (pe_call (ok__law_take T) (hr.mono (by decide)) rfl T.m__law_take T.F__law_take.kp (b__law_take T) .nil pass0 (pa_cons (pv 0) (pa_cons (pe_callB (lenS K) (by rfl) T.g_len (by decide +kernel) (pa_cons (pv 4) pa_nil)) pa_nil))) (fun _ _ => rfl)))
  (pss_cons (ps_set (i := 10) sc__law_look.nd rfl (Or.inl rfl) (pe_callTy (tupOf K) (by rfl) T.g_tuple (by decide +kernel) (pa_cons (pe_lc (own := [("_law_x", 11)]) (g := gName 11) rfl sc__law_look.nd (piL K (pe_ix (ixL K) (pv 5) (pe_ix (ixT K) (pv 6) pe_int (fun _ _ => rfl)) (fun _ _ => rfl))) (blkOk_by (N := ["_law_s", "_law_book", "_law_names", "_law_lists", "_law_ties", "_law_near", "_law_tie", "_law_k", "_law_here", "_law_there", "_law_due_here", "_law_x", "_law_row"]) (sc := defScope s__law_look) (by decide +kernel)) (fun _ _ _ _ _ => (pg_name (i := 11) (x := "_law_x") sc__law_look.nd rfl (Or.inl rfl))) (fun _ _ _ _ _ => (pts_one (PW.pt (pw_and (pt_cmpR op_lt (pe_ix (ixT K) (pv 6) pe_int (fun _ _ => rfl)) (pv 11) (nomark _)) (pw_and (pt_cmpR op_lt (pv 11) (pe_ix (ixT K) (pv 6) pe_int (fun _ _ => rfl)) (nomark _)) (pw_and1 (pt_cmpR (inS K) (pv 11) (pe_ix (ixL K) (pv 5) (pe_ix (ixT K) (pv 6) pe_int (fun _ _ => rfl)) (fun _ _ => rfl)) (by with_unfolding_all rfl)))))))) (fun _ _ _ _ _ => (pv 11))) pa_nil)))
  (pss_one (ps_if (pt_not (pt_val (pe_call (ok__law_same T) (hr.mono (by decide)) rfl T.m__law_same T.F__law_same.kp (b__law_same T) .nil pass0 (pa_cons (pe_call (ok__law_do T) (hr.mono (by decide)) rfl T.m__law_do T.F__law_do.kp (b__law_do T) .nil passL (pa_cons pe_int (pa_cons (pv 1) (pa_cons (pv 6) (pa_cons (pe_cmpR op_eq (pv 7) pe_int (nomark _)) pa_nil))))) (pa_cons (pv 10) pa_nil))))) (pss_one (ps_ret pe_bl))
  pss_nil))))
  pss_nil))))))))
  (pss_one (ps_ret (pe_call (ok__law_kinds T) (hr.mono (by decide)) rfl T.m__law_kinds T.F__law_kinds.kp (b__law_kinds T) .nil pass0 (pa_cons (pv 0) (pa_cons (pv 1) (pa_cons (pv 4) (pa_cons (pv 5) pa_nil)))))))))))))), ?_⟩
    have hq := ok.q
    have hin := ok.rin
    have hl40 := ok.l1
    have hl1 := ok.l0
    obtain ⟨an, rfl, tn⟩ := (rp_show hn).lstI
    refine ⟨_, rfl, _, rfl, .ref an, vl, names, rows, rfl, rp_show hn, rp_show hl, by omega, fun TA H1 s1 hTA rT => ?_⟩
    generalize hTT : pairsL names.length (byNames names rows) = TT at rT
    have hmT : ∀ r ∈ TT, ∃ i j : Nat, i < j ∧ j < names.length ∧ r = [(i : Int), (j : Int)] := fun r hr => by
      rw [← hTT] at hr
      obtain ⟨i, j, h1, h2, _, e⟩ := mem_pairs.mp hr
      exact ⟨i, j, h1, h2, e⟩
    have lTT : TT.length ≤ 1000 := by
      rw [← hTT]
      exact pairsL_len _ (by omega)
    obtain ⟨TA', tvs, eTA, hT, hzT, rT2⟩ := rT.lstA
    cases eTA
    have m1 := (Mv.refl st).then s1
    have tn1 := tn.same s1
    -- near = [[] for x in names]
    refine ⟨_, rfl, an, rfl, ⟨_, tn1.1⟩, fun D hD => ?_⟩
    refine lc_list (K := K) (xs := names.map V.int) (fun i H2 => ∃ as : List Addr, as.length = i ∧ as.Nodup ∧ (∀ a ∈ as, H1 a = none ∧ a ≠ D ∧ H2 a = some (.lst [])) ∧ Fill H1 D H2 (as.map V.ref))
      ⟨[], rfl, List.nodup_nil, fun a ha => by simp at ha, Fill.start hD⟩ (fun i H2 _ ⟨as, _, _, _, fl⟩ => fl.1.seq tn1.1) (fun i x H2 hi ⟨as, hl2, hnd, has, fl⟩ => ?_) (fun H2 ⟨as, hl2, hnd, has, fl⟩ => ?_)
    · refine ⟨rfl, (by show 0 ≤ sizeLine; decide), fun q hq2 => ?_⟩
      have sq := same_upd (o := .lst []) hq2
      have hqD : q ≠ D := fun e => by rw [e, fl.2] at hq2; cases hq2
      have hq1 : H1 q = none := by
        cases c : H1 q with
        | none => rfl
        | some o => rw [fl.1 _ _ c] at hq2; cases hq2
      have hi2 : i < names.length := by have := (List.getElem?_eq_some_iff.mp hi).1; simpa using this
      have hs1 : (1000 : Nat) < sizeLine := by decide
      refine ⟨as.map V.ref, sq _ _ fl.2, by rw [List.length_map]; omega, as ++ [q], by rw [List.length_append]; simp [hl2], ?_, fun a ha => ?_, ?_⟩
      · refine List.nodup_append.mpr ⟨hnd, by simp, fun a ha b hb e => ?_⟩
        rw [List.mem_singleton.mp hb] at e
        subst e
        rw [(has a ha).2.2] at hq2
        cases hq2
      · rcases List.mem_append.mp ha with z | z
        · obtain ⟨h1, h2, h3⟩ := has a z
          exact ⟨h1, h2, by rw [upd_ne h2]; exact sq _ _ h3⟩
        · rw [List.mem_singleton.mp z]
          exact ⟨hq1, hqD, by rw [upd_ne hqD, upd_same]⟩
      · have := fl.push hD sq (y := .ref q)
        rw [List.map_append]
        exact this
    · rw [List.length_map] at hl2
      have ns0 : NearSt H1 D as (fun _ => []) H2 := ⟨hnd, hD, fun a ha => ⟨(has a ha).1, (has a ha).2.1⟩, fl.2, fun i a e => (has a (List.mem_of_getElem? e)).2.2, fl.1⟩
      refine ⟨_, rfl, TA, rfl, ⟨tvs, fl.1.seq hT⟩, ?_⟩
      refine for_list (K := K) (a := TA) (xs := tvs) (fun j σ H3 => ∃ v6, σ = [some (.ref S), some v, some (.ref an), some vl, some (.ref TA), some (.ref D), v6, none, none, none, none, none, none] ∧ NearSt H1 D as (fun k => accL (k : Int) (TT.take j)) H3)
        ⟨none, rfl, by rw [show (fun k : Nat => accL (k : Int) (TT.take 0)) = fun _ => [] from rfl]; exact ns0⟩ (fun j σ H3 hj ⟨v6, e3, ns⟩ => ns.same.seq hT) (fun j x σ H3 hx ⟨v6, e3, ns⟩ => ?_) (fun σ H3 ⟨v6, e3, ns⟩ => ?_)
      · subst e3
        obtain ⟨d, hd, rx⟩ := rT2.get hx
        rw [List.getElem?_map] at hd
        cases er : TT[j]? with
        | none => rw [er] at hd; cases hd
        | some r =>
        rw [er] at hd
        have ed := (Option.some.inj hd).symm
        subst ed
        obtain ⟨a, b, hab, hb, rfl⟩ := hmT r (List.mem_of_getElem? er)
        obtain ⟨t, rfl, tt⟩ := (rx.same ns.same).tupI
        have ha1 : a < as.length := by omega
        have hb1 : b < as.length := by omega
        have ga := List.getElem?_eq_getElem ha1
        have gb := List.getElem?_eq_getElem hb1
        generalize as[a] = pa at ga
        generalize as[b] = pb at gb
        have gaV : (as.map V.ref)[a]? = some (.ref pa) := by rw [List.getElem?_map, ga]; rfl
        have gbV : (as.map V.ref)[b]? = some (.ref pb) := by rw [List.getElem?_map, gb]; rfl
        have hs4 : (4000 : Nat) ≤ sizeLine := by decide
        have lT : ∀ k : Nat, (accL (k : Int) (TT.take j)).length ≤ 2000 := fun k => by
          have h1 := accL_len (k : Int) (TT.take j)
          have h2 : (TT.take j).length ≤ TT.length := by rw [List.length_take]; exact Nat.min_le_right _ _
          omega
        have n1 := ns.app ga (b : Int)
        have tt1 := (rx.same n1.same).tupI
        obtain ⟨t', et, tt1⟩ := tt1
        cases et
        refine ⟨_, rfl, _, rfl, t, _, _, _, rfl, rfl, tt.1, at_of (j := 0) rfl rfl, D, _, _, _, rfl, rfl, SqL.of ns.atD, at_of (j := a) rfl gaV, .inl ⟨rfl, _, SqL.of (ns.atA a pa ga)⟩, _, rfl, t, _, _, _, rfl, rfl, tt.1, at_of (j := 1) rfl rfl, pa, _, _, rfl, rfl, ns.atA a pa ga, by rw [List.length_map]; have := lT a; omega, ?_⟩
        have n2 := n1.app gb (a : Int)
        refine ⟨_, rfl, _, rfl, t, _, _, _, rfl, rfl, tt1.1, at_of (j := 1) rfl rfl, D, _, _, _, rfl, rfl, SqL.of n1.atD, at_of (j := b) rfl gbV, .inl ⟨rfl, _, SqL.of (n1.atA b pb gb)⟩, _, rfl, t, _, _, _, rfl, rfl, tt1.1, at_of (j := 0) rfl rfl, pb, _, _, rfl, rfl, n1.atA b pb gb, ?_, ?_⟩
        · rw [List.length_map, if_neg (by omega)]
          have := lT b
          omega
        · refine ⟨_, rfl, ?_⟩
          rw [acc_step hab] at n2
          rw [show (fun k : Nat => accL (k : Int) (TT.take (j + 1))) = fun k : Nat => accL (k : Int) (TT.take j) ++ accR (k : Int) [(a : Int), (b : Int)] from funext fun k => acc_take er (k : Int)]
          exact n2
      · subst e3
        have lt : tvs.length = TT.length := by rw [rT2.length, List.length_map]
        rw [lt, List.take_length] at ns
        have m3 := (Mv.refl st).then (s1.trans ns.same)
        refine ⟨_, rfl, D, rfl, ⟨_, SqL.of ns.atD⟩, fun D2 hD2 => ?_⟩
        have D2S := free_ne m3.ok hD2
        have hacc : ∀ k : Nat, k < names.length → srt (accL (k : Int) TT) = natI (nearN ((names.length : Nat) : Int) (renum names rows) (k : Int)) := fun k hk => by
          rw [← hTT, acc_near hq hk, srt_near]
        refine lcLS (K := K) S (xs := as.map V.ref) (fun _ => true) (fun j => dLst (srt (accL (j : Int) TT))) hD2 (SqL.of ns.atD) (by rw [List.length_map]; omega) (fun j x H4 hj s4 hex Q3 Q4 k3 k4 => ?_) (fun ys H4 s4 hy ly r4 => ?_)
        · obtain ⟨pa, ga, rfl⟩ : ∃ pa, as[j]? = some pa ∧ x = .ref pa := by
            rw [List.getElem?_map] at hj
            cases e : as[j]? with
            | none => rw [e] at hj; cases hj
            | some pa => rw [e] at hj; exact ⟨pa, rfl, (Option.some.inj hj).symm⟩
          refine ⟨rfl, _, rfl, pa, _, rfl, SqL.of ((ns.grow s4).atA j pa ga), fun ns' q pm pw hq2 => ?_⟩
          have e5 := srt_eq pm pw
          subst e5
          have qS : q ≠ S := free_ne (m3.then s4).ok hq2
          have qD : q ≠ D2 := fun e => by
            obtain ⟨zz, he⟩ := hex
            rw [e, he] at hq2
            cases hq2
          exact k3 rfl _ _ (same_upd hq2) (LstI.rp ⟨SqL.of (by rw [hide_ne qD, hide_ne qS, upd_same]), by rw [hacc j (by have := (List.getElem?_eq_some_iff.mp ga).1; omega)]; exact near_len _ _ _ (by omega)⟩)
        · rw [filter_true] at r4
          have ez : (List.range (as.map V.ref).length).map (fun j : Nat => dLst (srt (accL (j : Int) TT))) = (nearAll names.length (renum names rows)).map dLst := by
            unfold nearAll
            rw [List.length_map, hl2, List.map_map]
            refine List.map_congr_left fun k hk => ?_
            show dLst (srt (accL (k : Int) TT)) = dLst _
            rw [hacc k (List.mem_range.mp hk)]
          rw [ez] at r4
          rw [List.length_map] at ly
          have m4 := m3.then s4
          have rN : Rp K (hide S H4) (.ref D2) (.list ((nearAll names.length (renum names rows)).map dLst)) := .lst (SqL.of (by rw [hide_ne D2S]; exact hy)) (by omega) (r4.same (hide_same _ _))
          have TAS : TA ≠ S := free_ne st hTA
          obtain ⟨zs1, hS1⟩ := m1.ok.atS
          have rTh : Rp K (hide S H1) (.ref TA) (.list (TT.map dTup)) := .lst (seqL_hide TAS hT) hzT (rpAll_hideL hS1 (noLs_rows TT) rT2)
          have m14 : Mv S p H1 H4 := (Mv.refl m1.ok).then (ns.same.trans s4)
          have rT4 := m14.rp rTh
          have rb4 := m4.rp hv
          have rn4 := m4.rp hn
          have hbook : isBook (bookD ((names.length : Nat) : Int) (renum names rows)) = true := isBook_good (by omega) ok.good
          have hgood := ok.good
          have eties : tiesL ((names.length : Nat) : Int) (renum names rows) = TT := by rw [ties_pairs hq, hTT]
          have etc : tieC (renum names rows) = ((TT.length : Nat) : Int) := by rw [tieC_eq hq hin, hTT]
          have look : LookOk ((names.length : Nat) : Int) (renum names rows) TT (nearAll names.length (renum names rows)) :=
            ⟨by omega, by omega, lTT, by unfold nearAll; simp, fun r hr x hx => by
              obtain ⟨i, _, rfl⟩ := List.mem_map.mp hr
              have := mem_near.mp hx
              exact ⟨this.1, this.2.1⟩, fun d => by rw [← hTT]; exact tie_iff hq d, fun d => row_eq d⟩
          have hnear : ∀ a : Int, 0 ≤ a → a < ((names.length : Nat) : Int) → (nearAll names.length (renum names rows)).getD a.toNat [] = natI (nearN ((names.length : Nat) : Int) (renum names rows) a) := fun a h0 h1 => nearAll_at h0 h1
          have lNR : (nearAll names.length (renum names rows)).length = names.length := by unfold nearAll; simp
          generalize nearAll names.length (renum names rows) = NR at *
          generalize renum names rows = br at *
          generalize hn' : ((names.length : Nat) : Int) = n at *
          have tC := rp_show rT4
          obtain ⟨TA2, tv2, eTA2, hT4, hzT4, rT5⟩ := tC.lstA
          cases eTA2
          refine ⟨_, rfl, v, n, br, rfl, rp_show rb4, hin, by omega, by omega, fun u1 H5 s5 r5 => ?_⟩
          refine ⟨_, rfl, v, n, br, rfl, (rp_show rb4).same s5, hin, by omega, by omega, fun u2 H6 s6 r6 => ?_⟩
          refine ⟨_, rfl, v, n, br, rfl, (rp_show rb4).same (s5.trans s6), hgood, by omega, by omega, fun H7 s7 => ⟨(by show 3 ≤ sizeLine; decide), fun q1 hq1 => ?_⟩⟩
          rw [eties] at r5 r6
          rw [etc]
          have rq1 := rp_tri hq1 (r5.same (s6.trans s7)) (r6.same s7) (.int ((TT.length : Nat) : Int))
          have s8 := same_upd (o := .tup [u1, u2, V.int ((TT.length : Nat) : Int)]) hq1
          have s58 := s5.trans (s6.trans (s7.trans s8))
          have rTu : ∀ {H9 : Hp} {q : Addr}, Same H4 H9 → SqT K H9 q tv2 → Rp K H9 (.ref q) (.tuple (TT.map dTup)) := fun s h => .tup h hzT4 (rT5.same s)
          refine ⟨_, rfl, ?_⟩
          dsimp only [tNil]
          refine tupL_use (K := K) (xs := tv2) (s58.seq hT4) fun q2 H9 s9 hq2 => ?_
          have r9 := rTu (s58.trans s9) hq2
          refine ⟨_, rfl, ?_⟩
          dsimp only [tNil]
          refine tupL_use (K := K) (xs := tv2) ((s58.trans s9).seq hT4) fun q3 H10 s10 hq3 => ?_
          have r10 := rTu (s58.trans (s9.trans s10)) hq3
          have lt2 : tv2.length = TT.length := by rw [rT5.length, List.length_map]
          refine ⟨_, rfl, TA, _, rfl, .inl ((s58.trans (s9.trans s10)).seq hT4), (by show 3 ≤ sizeLine; decide), fun q4 hq4 => ?_⟩
          rw [lt2]
          have rq4 := rp_tri hq4 (r9.same s10) r10 (.int ((TT.length : Nat) : Int))
          have s11 := same_upd (o := .tup [V.ref q2, V.ref q3, V.int ((TT.length : Nat) : Int)]) hq4
          refine ⟨.ref q1, .ref q4, _, _, rfl, rq1.same (s9.trans (s10.trans s11)), rq4, noL_three _ _, deep_three _ _, fun b H12 s12 e12 => ?_⟩
          have eb : b = true := e12.mpr rfl
          subst eb
          refine ⟨_, rfl, iteF ?_⟩
          have sx := s58.trans (s9.trans (s10.trans (s11.trans s12)))
          refine ⟨_, rfl, v, _, rfl, (rp_show rb4).same sx, fun H13 s13 => ⟨_, _, .bool true, .bool true, rfl, by rw [hbook]; exact .bl true, .bl true, rfl, by decide, fun b H14 s14 e14 => ?_⟩⟩
          have eb : b = true := e14.mpr rfl
          subst eb
          refine ⟨_, rfl, iteF ?_⟩
          have m14x := m4.then (sx.trans (s13.trans s14))
          have mm := (Mv.refl m4.ok).then (sx.trans (s13.trans s14))
          have rb := mm.rp rb4
          have rT := mm.rp rT4
          have rN := mm.rp rN
          have rn := mm.rp rn4
          clear rb4 rT4 rn4 rq1 rq4 r9 r10 r5 r6 rTu tC rT5 hT4
          refine ⟨6, rfl, by decide, by decide, ?_⟩
          refine for_range (lo := 0) (n := 6) (fun i σ H15 => ∃ v6 v7 v8 v9 v10 v11 v12, σ = [some (.ref S), some v, some (.ref an), some vl, some (.ref TA), some (.ref D2), v6, v7, v8, v9, v10, v11, v12] ∧ Mv S p H14 H15) ⟨_, _, _, _, _, _, _, rfl, Mv.refl m14x.ok⟩ (fun i σ H15 hi ⟨v6, v7, v8, v9, v10, v11, v12, e15, m15⟩ => ?_) (fun σ H15 ⟨v6, v7, v8, v9, v10, v11, v12, e15, m15⟩ => ?_)
          · subst e15
            have tnL : ∀ {H16 : Hp}, Mv S p H14 H16 → SqL K H16 an (names.map V.int) := fun m => ((rp_show (m.rp rn)).lstI).elim fun a ⟨ea, ta⟩ => by cases ea; exact ta.1
            refine ⟨_, rfl, _, rfl, an, _, rfl, .inl (tnL m15), S, p, _, rfl, m15.ok, by rw [List.length_map]; omega, by rw [List.length_map]; omega, fun here H16 h0 h1 m16 => ?_⟩
            rw [List.length_map, hn'] at h1
            have m17 := m15.trans m16
            refine ⟨_, rfl, _, rfl, an, _, rfl, .inl (tnL m17), S, p, _, rfl, m17.ok, by rw [List.length_map]; omega, by rw [List.length_map]; omega, fun there H17 t0 t1 m18 => ?_⟩
            rw [List.length_map, hn'] at t1
            have m19 := m17.trans m18
            have rb17 := rp_show (m19.rp rb)
            have bih : isBelow n (.int here) = true := decide_eq_true ⟨h0, h1⟩
            have bit : isBelow n (.int there) = true := decide_eq_true ⟨t0, t1⟩
            have en : nearOfX n br (.int here) = .ok (dTup (natI (nearN n br here))) := by unfold nearOfX; rw [bih]; rfl
            -- the list of here's neighbours
            obtain ⟨Na, nvs, eNa, hNa, hzNa, rNa⟩ := (m19.rp rN).lstA
            cases eNa
            have nrow : ∀ a : Int, 0 ≤ a → a < n → ∃ x, nvs[a.toNat]? = some (.ref x) ∧ LstI K (hide S H17) x (natI (nearN n br a)) := fun a h0 h1 => by
              have hlt : a.toNat < NR.length := by omega
              obtain ⟨x, hx, rx⟩ := rNa.getD (i := a.toNat) (d := dLst (NR.getD a.toNat [])) (by rw [List.getElem?_map, List.getElem?_eq_getElem hlt, List.getD_eq_getElem?_getD, List.getElem?_eq_getElem hlt]; rfl)
              rw [hnear a h0 h1] at rx
              obtain ⟨y, rfl, ty⟩ := rx.lstI
              exact ⟨y, hx, ty⟩
            obtain ⟨xh, hxh, txh⟩ := nrow here h0 h1
            have hs : Same (hide S H17) H17 := hide_same S H17
            -- near_of(book, here)
            refine ⟨_, rfl, _, rfl, _, rfl, rfl, 6, v, .int here, _, rfl, .near ⟨v, .int here, .int here, n, br, rfl, rb17, .int here, ⟨hin, by omega, by omega⟩, ?_⟩⟩
            rw [en]
            intro u18 H18 s18 r18
            refine ⟨_, rfl, _, rfl, D2, _, _, _, rfl, rfl, (hs.trans s18).seq hNa, at_of (j := here.toNat) (by omega) hxh, ?_⟩
            dsimp only [tNil]
            refine tupL_use (K := K) (xs := (natI (nearN n br here)).map V.int) ((hs.trans s18).seq txh.1) fun q19 H19 s19 hq19 => ?_
            have r19 : Rp K H19 (.ref q19) (dTup (natI (nearN n br here))) := TupI.rp ⟨hq19, txh.2⟩
            refine ⟨u18, .ref q19, _, _, rfl, r18.same s19, r19, noL_dTup _, deep_row _, fun b H20 s20 e20 => ?_⟩
            have eb : b = true := e20.mpr rfl
            subst eb
            refine ⟨_, rfl, iteF ?_⟩
            have s1720 := s18.trans (s19.trans s20)
            -- due = there in near[here]
            refine ⟨_, rfl, _, rfl, _, rfl, D2, _, _, _, rfl, rfl, (hs.trans s1720).seq hNa, at_of (j := here.toNat) (by omega) hxh, xh, _, rfl, .inl ((hs.trans s1720).seq txh.1), rfl, flat_ints _, ?_⟩
            have eV : (V.bl (if false = true then !inV (.int there) ((natI (nearN n br here)).map V.int) else inV (.int there) ((natI (nearN n br here)).map V.int))) = V.bl (decide (there ∈ natI (nearN n br here))) := by rw [if_neg (by decide), inV_int]
            rw [eV]
            have m20 := m19.then s1720
            refine ⟨_, rfl, _, rfl, rfl, _, rfl, ?_⟩
            by_cases ch : here = there
            · rw [decide_eq_true (show V.int here = V.int there by rw [ch])]
              refine iteF (iteF ?_)
              have mc : Mv S p H14 _ := m20
              have tvL : ∀ {H16 : Hp}, Mv S p H14 H16 → ∃ ts, SqL K H16 TA ts ∧ ts.length = TT.length ∧ RpAll K (hide S H16) ts (TT.map dTup) := fun m => by
                obtain ⟨a, ts, ea, h1, h2, h3⟩ := (m.rp rT).lstA
                cases ea
                exact ⟨ts, (hide_same S _).seq h1, by rw [h3.length, List.length_map], h3⟩
              obtain ⟨ts, hts, lts, rts⟩ := tvL mc
              refine ⟨_, rfl, TA, _, rfl, .inl hts, _, _, rfl, rfl, _, rfl, ?_⟩
              rw [lts]
              by_cases c0 : 0 < TT.length
              rotate_left
              · rw [decide_eq_false (show ¬ (0 : Int) < ((TT.length : Nat) : Int) by omega)]
                exact iteF ⟨_, _, _, _, _, _, _, rfl, mc⟩
              rw [decide_eq_true (show (0 : Int) < ((TT.length : Nat) : Int) by omega)]
              refine iteT ⟨_, rfl, _, rfl, _, rfl, TA, _, rfl, .inl hts, S, p, _, rfl, mc.ok, by omega, by omega, fun r H22 r0 r1 m22 => ?_⟩
              rw [lts] at r1
              have m23 := mc.trans m22
              obtain ⟨ts2, hts2, lts2, rts2⟩ := tvL m23
              have hrl : r.toNat < TT.length := by omega
              have hrT : TT[r.toNat]? = some TT[r.toNat] := List.getElem?_eq_getElem hrl
              obtain ⟨a, b, hab, hbn, er⟩ := hmT _ (List.getElem_mem hrl)
              have hmem : [(a : Int), (b : Int)] ∈ TT := by rw [← er]; exact List.getElem_mem hrl
              rw [er] at hrT
              obtain ⟨x, hx, rx⟩ := rts2.getD (i := r.toNat) (d := dTup [(a : Int), (b : Int)]) (by rw [List.getElem?_map, hrT]; rfl)
              obtain ⟨t, rfl, tt⟩ := (rp_show rx).tupI
              have hct : isTie n br (dTup [(a : Int), (b : Int)]) = true := (look.tie _).mpr (mem_rows.mpr hmem)
              have nrow2 : ∀ {H16 : Hp}, Mv S p H14 H16 → ∀ c : Int, 0 ≤ c → c < n → ∃ (nv : List V) (x : Addr), SqL K H16 D2 nv ∧ nv[c.toNat]? = some (.ref x) ∧ LstI K H16 x (natI (nearN n br c)) := fun {H16} m c h0 h1 => by
                obtain ⟨Na, nvs, eNa, hNa, hzNa, rNa⟩ := (m.rp rN).lstA
                cases eNa
                have hlt : c.toNat < NR.length := by omega
                obtain ⟨x, hx, rx⟩ := rNa.getD (i := c.toNat) (d := dLst (NR.getD c.toNat [])) (by rw [List.getElem?_map, List.getElem?_eq_getElem hlt, List.getD_eq_getElem?_getD, List.getElem?_eq_getElem hlt]; rfl)
                rw [hnear c h0 h1] at rx
                obtain ⟨y, rfl, ty⟩ := (rp_show rx).lstI
                exact ⟨nvs, y, (hide_same S _).seq hNa, hx, ty⟩
              obtain ⟨nva, xa, hnva, hxa, txa⟩ := nrow2 m23 (a : Int) (by omega) (by omega)
              obtain ⟨nvb, xb, hnvb, hxb, txb⟩ := nrow2 m23 (b : Int) (by omega) (by omega)
              refine ⟨TA, _, _, _, rfl, rfl, hts2, at_of (j := r.toNat) (by omega) hx, ?_⟩
              refine ⟨_, rfl, _, rfl, t, _, _, _, rfl, rfl, tt.1, at_of (j := 0) rfl rfl, D2, _, _, _, rfl, rfl, hnva, at_of (j := a) rfl hxa, xa, rfl, ⟨_, txa.1⟩, fun D3 hD3 => ?_⟩
              have ebt := between_eq n br (a : Int) (b : Int)
              generalize hNA : natI (nearN n br (a : Int)) = NA at *
              generalize hNB : natI (nearN n br (b : Int)) = NB at *
              refine lcL (K := K) (xs := NA.map V.int) (fun j => decide ((a : Int) < NA.getD j 0) && decide (NA.getD j 0 < (b : Int)) && decide (NA.getD j 0 ∈ NB)) (fun j => .int (NA.getD j 0)) hD3 txa.1 (by rw [List.length_map]; exact txa.2) (fun _ _ _ => rfl) (fun y w5 H5 hy5 s5 Q5 Q6 k5 k6 => ?_) (fun ys H5 s5 hy r5 => ?_)
              · obtain ⟨z, hz5, rfl⟩ := lab_at hy5
                have eg : NA.getD y 0 = z := by rw [List.getD_eq_getElem?_getD, hz5]; rfl
                rw [eg] at k5 k6
                refine ⟨rfl, _, rfl, t, _, _, _, rfl, rfl, (tt.same s5).1, at_of (j := 0) rfl rfl, _, rfl, _, _, rfl, rfl, _, rfl, ?_⟩
                show if decide ((a : Int) < z) = true then _ else _
                cases c1 : decide ((a : Int) < z) with
                | false =>
                  rw [c1] at k6
                  exact iteF (iteF (k6 rfl _ (Same.refl _)))
                | true =>
                  rw [c1] at k5 k6
                  refine iteT ⟨_, rfl, _, rfl, t, _, _, _, rfl, rfl, (tt.same s5).1, at_of (j := 1) rfl rfl, _, _, rfl, rfl, _, rfl, ?_⟩
                  show if decide (z < (b : Int)) = true then _ else _
                  cases c2 : decide (z < (b : Int)) with
                  | false =>
                    rw [c2] at k6
                    exact iteF (iteF (k6 rfl _ (Same.refl _)))
                  | true =>
                    rw [c2] at k5 k6
                    refine iteT ⟨_, rfl, _, rfl, _, rfl, t, _, _, _, rfl, rfl, (tt.same s5).1, at_of (j := 1) rfl rfl, D2, _, _, _, rfl, rfl, s5.seq hnvb, at_of (j := b) rfl hxb, xb, _, rfl, .inl (txb.same s5).1, rfl, flat_ints NB, _, rfl, ?_⟩
                    show if inV (.int z) (NB.map V.int) = true then _ else _
                    rw [inV_int]
                    cases c3 : decide (z ∈ NB) with
                    | false =>
                      rw [c3] at k6
                      exact iteF (k6 rfl _ (Same.refl _))
                    | true =>
                      rw [c3] at k5
                      exact iteT ⟨_, rfl, k5 rfl _ _ (Same.refl _) (.int _)⟩
              · have ez : ((List.range (NA.map V.int).length).filter fun j => decide ((a : Int) < NA.getD j 0) && decide (NA.getD j 0 < (b : Int)) && decide (NA.getD j 0 ∈ NB)).map (fun j => PyData.int (NA.getD j 0)) = (NA.filter fun z => decide ((a : Int) < z) && decide (z < (b : Int)) && decide (z ∈ NB)).map PyData.int := by
                  rw [List.length_map]
                  exact filter_map_range (fun z : Int => decide ((a : Int) < z) && decide (z < (b : Int)) && decide (z ∈ NB)) PyData.int 0 NA
                rw [ez, ← ebt] at r5
                have := r5.ofInts
                subst this
                have lbt : (natI (betweenN n br (a : Int) (b : Int))).length ≤ 1000 := by
                  rw [ebt]
                  exact Nat.le_trans (List.length_filter_le _ _) txa.2
                dsimp only [tNil]
                refine tupL_use (SqL.of hy) fun q6 H6 s6 hq6 => ?_
                have r6 : Rp K H6 (.ref q6) (dTup (natI (betweenN n br (a : Int) (b : Int)))) := TupI.rp ⟨hq6, lbt⟩
                have s56 := s5.trans s6
                have ebx : betweenX n br (dTup [(a : Int), (b : Int)]) = .ok (dTup (natI (betweenN n br (a : Int) (b : Int)))) := by
                  unfold betweenX
                  rw [hct, dInts_tup]
                  rfl
                refine ⟨_, rfl, _, rfl, _, rfl, rfl, 7, v, .ref t, _, rfl, .between ⟨v, .ref t, dTup [(a : Int), (b : Int)], n, br, rfl, (rp_show (m23.rp rb)).same s56, tt.rp.same s56, ⟨hin, by omega, by omega⟩, ?_⟩⟩
                rw [ebx]
                intro u7 H7 s7 r7
                refine ⟨_, rfl, u7, .ref q6, _, _, rfl, r7, r6.same s7, noL_dTup _, deep_row _, fun b H8 s8 e8 => ?_⟩
                have eb : b = true := e8.mpr rfl
                subst eb
                exact ⟨_, rfl, iteF ⟨_, _, _, _, _, _, _, rfl, m23.then (s56.trans (s7.trans s8))⟩⟩
            · rw [decide_eq_false (show ¬ V.int here = V.int there from fun z => ch (by injection z))]
              refine iteT ⟨_, rfl, _, rfl, _, rfl, (by show 2 ≤ sizeLine; decide), fun q21 hq21 => ?_⟩
              have s21 := same_upd (o := .tup [V.int here, V.int there]) hq21
              have eit : isTiedX n br (.int here) (.int there) = .ok (.bool (tiedB br here there)) := by
                have hne : decide (toInt (.int there) ≠ toInt (.int here)) = true := decide_eq_true (show there ≠ here from fun z => ch z.symm)
                unfold isTiedX
                rw [bih, bit, hne]
                rfl
              have emt : decide (there ∈ natI (nearN n br here)) = tiedB br here there := by
                cases c : tiedB br here there with
                | true => exact decide_eq_true (mem_near.mpr ⟨t0, t1, ch, c⟩)
                | false => exact decide_eq_false fun z => by rw [(mem_near.mp z).2.2.2] at c; cases c
              refine ⟨_, rfl, _, _, rfl, rfl, 8, v, .ref q21, _, rfl, .tied (SqT.of upd_same) ⟨v, .int here, .int there, .int here, .int there, n, br, rfl, rb17.same (s1720.trans s21), .int here, .int there, trivial, ?_⟩⟩
              rw [eit]
              intro u22 H22 s22 r22
              refine ⟨_, rfl, u22, _, _, .bool (decide (there ∈ natI (nearN n br here))), rfl, r22, .bl _, rfl, by show 0 ≤ 4; decide, fun b23 H23 s23 e23 => ?_⟩
              have eb : b23 = true := e23.mpr (by rw [emt])
              subst eb
              refine ⟨_, rfl, iteF ?_⟩
              have mc : Mv S p H14 _ := m20.then (s21.trans (s22.trans s23))
              have tvL : ∀ {H16 : Hp}, Mv S p H14 H16 → ∃ ts, SqL K H16 TA ts ∧ ts.length = TT.length ∧ RpAll K (hide S H16) ts (TT.map dTup) := fun m => by
                obtain ⟨a, ts, ea, h1, h2, h3⟩ := (m.rp rT).lstA
                cases ea
                exact ⟨ts, (hide_same S _).seq h1, by rw [h3.length, List.length_map], h3⟩
              obtain ⟨ts, hts, lts, rts⟩ := tvL mc
              refine ⟨_, rfl, TA, _, rfl, .inl hts, _, _, rfl, rfl, _, rfl, ?_⟩
              rw [lts]
              by_cases c0 : 0 < TT.length
              rotate_left
              · rw [decide_eq_false (show ¬ (0 : Int) < ((TT.length : Nat) : Int) by omega)]
                exact iteF ⟨_, _, _, _, _, _, _, rfl, mc⟩
              rw [decide_eq_true (show (0 : Int) < ((TT.length : Nat) : Int) by omega)]
              refine iteT ⟨_, rfl, _, rfl, _, rfl, TA, _, rfl, .inl hts, S, p, _, rfl, mc.ok, by omega, by omega, fun r H22 r0 r1 m22 => ?_⟩
              rw [lts] at r1
              have m23 := mc.trans m22
              obtain ⟨ts2, hts2, lts2, rts2⟩ := tvL m23
              have hrl : r.toNat < TT.length := by omega
              have hrT : TT[r.toNat]? = some TT[r.toNat] := List.getElem?_eq_getElem hrl
              obtain ⟨a, b, hab, hbn, er⟩ := hmT _ (List.getElem_mem hrl)
              have hmem : [(a : Int), (b : Int)] ∈ TT := by rw [← er]; exact List.getElem_mem hrl
              rw [er] at hrT
              obtain ⟨x, hx, rx⟩ := rts2.getD (i := r.toNat) (d := dTup [(a : Int), (b : Int)]) (by rw [List.getElem?_map, hrT]; rfl)
              obtain ⟨t, rfl, tt⟩ := (rp_show rx).tupI
              have hct : isTie n br (dTup [(a : Int), (b : Int)]) = true := (look.tie _).mpr (mem_rows.mpr hmem)
              have nrow2 : ∀ {H16 : Hp}, Mv S p H14 H16 → ∀ c : Int, 0 ≤ c → c < n → ∃ (nv : List V) (x : Addr), SqL K H16 D2 nv ∧ nv[c.toNat]? = some (.ref x) ∧ LstI K H16 x (natI (nearN n br c)) := fun {H16} m c h0 h1 => by
                obtain ⟨Na, nvs, eNa, hNa, hzNa, rNa⟩ := (m.rp rN).lstA
                cases eNa
                have hlt : c.toNat < NR.length := by omega
                obtain ⟨x, hx, rx⟩ := rNa.getD (i := c.toNat) (d := dLst (NR.getD c.toNat [])) (by rw [List.getElem?_map, List.getElem?_eq_getElem hlt, List.getD_eq_getElem?_getD, List.getElem?_eq_getElem hlt]; rfl)
                rw [hnear c h0 h1] at rx
                obtain ⟨y, rfl, ty⟩ := (rp_show rx).lstI
                exact ⟨nvs, y, (hide_same S _).seq hNa, hx, ty⟩
              obtain ⟨nva, xa, hnva, hxa, txa⟩ := nrow2 m23 (a : Int) (by omega) (by omega)
              obtain ⟨nvb, xb, hnvb, hxb, txb⟩ := nrow2 m23 (b : Int) (by omega) (by omega)
              refine ⟨TA, _, _, _, rfl, rfl, hts2, at_of (j := r.toNat) (by omega) hx, ?_⟩
              refine ⟨_, rfl, _, rfl, t, _, _, _, rfl, rfl, tt.1, at_of (j := 0) rfl rfl, D2, _, _, _, rfl, rfl, hnva, at_of (j := a) rfl hxa, xa, rfl, ⟨_, txa.1⟩, fun D3 hD3 => ?_⟩
              have ebt := between_eq n br (a : Int) (b : Int)
              generalize hNA : natI (nearN n br (a : Int)) = NA at *
              generalize hNB : natI (nearN n br (b : Int)) = NB at *
              refine lcL (K := K) (xs := NA.map V.int) (fun j => decide ((a : Int) < NA.getD j 0) && decide (NA.getD j 0 < (b : Int)) && decide (NA.getD j 0 ∈ NB)) (fun j => .int (NA.getD j 0)) hD3 txa.1 (by rw [List.length_map]; exact txa.2) (fun _ _ _ => rfl) (fun y w5 H5 hy5 s5 Q5 Q6 k5 k6 => ?_) (fun ys H5 s5 hy r5 => ?_)
              · obtain ⟨z, hz5, rfl⟩ := lab_at hy5
                have eg : NA.getD y 0 = z := by rw [List.getD_eq_getElem?_getD, hz5]; rfl
                rw [eg] at k5 k6
                refine ⟨rfl, _, rfl, t, _, _, _, rfl, rfl, (tt.same s5).1, at_of (j := 0) rfl rfl, _, rfl, _, _, rfl, rfl, _, rfl, ?_⟩
                show if decide ((a : Int) < z) = true then _ else _
                cases c1 : decide ((a : Int) < z) with
                | false =>
                  rw [c1] at k6
                  exact iteF (iteF (k6 rfl _ (Same.refl _)))
                | true =>
                  rw [c1] at k5 k6
                  refine iteT ⟨_, rfl, _, rfl, t, _, _, _, rfl, rfl, (tt.same s5).1, at_of (j := 1) rfl rfl, _, _, rfl, rfl, _, rfl, ?_⟩
                  show if decide (z < (b : Int)) = true then _ else _
                  cases c2 : decide (z < (b : Int)) with
                  | false =>
                    rw [c2] at k6
                    exact iteF (iteF (k6 rfl _ (Same.refl _)))
                  | true =>
                    rw [c2] at k5 k6
                    refine iteT ⟨_, rfl, _, rfl, _, rfl, t, _, _, _, rfl, rfl, (tt.same s5).1, at_of (j := 1) rfl rfl, D2, _, _, _, rfl, rfl, s5.seq hnvb, at_of (j := b) rfl hxb, xb, _, rfl, .inl (txb.same s5).1, rfl, flat_ints NB, _, rfl, ?_⟩
                    show if inV (.int z) (NB.map V.int) = true then _ else _
                    rw [inV_int]
                    cases c3 : decide (z ∈ NB) with
                    | false =>
                      rw [c3] at k6
                      exact iteF (k6 rfl _ (Same.refl _))
                    | true =>
                      rw [c3] at k5
                      exact iteT ⟨_, rfl, k5 rfl _ _ (Same.refl _) (.int _)⟩
              · have ez : ((List.range (NA.map V.int).length).filter fun j => decide ((a : Int) < NA.getD j 0) && decide (NA.getD j 0 < (b : Int)) && decide (NA.getD j 0 ∈ NB)).map (fun j => PyData.int (NA.getD j 0)) = (NA.filter fun z => decide ((a : Int) < z) && decide (z < (b : Int)) && decide (z ∈ NB)).map PyData.int := by
                  rw [List.length_map]
                  exact filter_map_range (fun z : Int => decide ((a : Int) < z) && decide (z < (b : Int)) && decide (z ∈ NB)) PyData.int 0 NA
                rw [ez, ← ebt] at r5
                have := r5.ofInts
                subst this
                have lbt : (natI (betweenN n br (a : Int) (b : Int))).length ≤ 1000 := by
                  rw [ebt]
                  exact Nat.le_trans (List.length_filter_le _ _) txa.2
                dsimp only [tNil]
                refine tupL_use (SqL.of hy) fun q6 H6 s6 hq6 => ?_
                have r6 : Rp K H6 (.ref q6) (dTup (natI (betweenN n br (a : Int) (b : Int)))) := TupI.rp ⟨hq6, lbt⟩
                have s56 := s5.trans s6
                have ebx : betweenX n br (dTup [(a : Int), (b : Int)]) = .ok (dTup (natI (betweenN n br (a : Int) (b : Int)))) := by
                  unfold betweenX
                  rw [hct, dInts_tup]
                  rfl
                refine ⟨_, rfl, _, rfl, _, rfl, rfl, 7, v, .ref t, _, rfl, .between ⟨v, .ref t, dTup [(a : Int), (b : Int)], n, br, rfl, (rp_show (m23.rp rb)).same s56, tt.rp.same s56, ⟨hin, by omega, by omega⟩, ?_⟩⟩
                rw [ebx]
                intro u7 H7 s7 r7
                refine ⟨_, rfl, u7, .ref q6, _, _, rfl, r7, r6.same s7, noL_dTup _, deep_row _, fun b H8 s8 e8 => ?_⟩
                have eb : b = true := e8.mpr rfl
                subst eb
                exact ⟨_, rfl, iteF ⟨_, _, _, _, _, _, _, rfl, m23.then (s56.trans (s7.trans s8))⟩⟩
          · subst e15
            refine ⟨_, rfl, _, rfl, _, rfl, _, rfl, S, p, v, .ref TA, .ref D2, n, br, TT, NR, rfl, m15.ok, m15.rp rb, m15.rp rT, m15.rp rN, look, fun H16 m16 => k _ (m14x.trans (m15.trans m16))⟩
end
end LK
namespace LK
open PySem PySem.Spec PyProof.Rows L2
theorem hu64 {A : Around} {k : Nat} (hr : Room k A) : A.units + 64 < cLine := hr.units
theorem eqD {X : Cx} (K : PySem.W.Frag) (hu : X.A.units + 64 < cLine) (hK : X.K = K := by rfl) : OpR X (compareOp .Eq) (rEqD K) := hK ▸ op_eqD hu
theorem tIf_pass {c : TT} {t : TS} {D : Ends} {σ : L2.St} {H : Hp} (G : Hp → Prop) (hc : ∀ R : Bool → Hp → Prop, (∀ H', G H' → R false H') → c σ H R) (hn : ∀ H', G H' → D.nx σ H') : tIfS c t tNext D σ H := hc _ fun H' g => iteF (hn H' g)
theorem tIf_w {c : TT} {D : Ends} {σ : L2.St} {H : Hp} {i : Nat} {w5 : V} (w0 : V) (hσ : σ.set i (some w0) = σ) (Pt Pf : Hp → Prop) (hc : ∀ R : Bool → Hp → Prop, (∀ H', Pt H' → R true H') → (∀ H', Pf H' → R false H') → c σ H R)
    (hn : ∀ wv H', (wv = w5 ∧ Pt H') ∨ (wv = w0 ∧ Pf H') → D.nx (σ.set i (some wv)) H') : tIfS c (tAsg (tC w5) (gName i)) tNext D σ H := by
  refine hc _ (fun H' p => iteT ?_) (fun H' p => iteF ?_)
  · exact hn w5 H' (.inl ⟨rfl, p⟩)
  · have := hn w0 H' (.inr ⟨rfl, p⟩)
    rw [hσ] at this
    exact this
theorem canLay_lists : ∀ T : List (List Int), PyData.canLayAll0 (T.map dLst) = true
  | [] => rfl
  | r :: T => by
    rw [List.map_cons]
    unfold PyData.canLayAll0
    rw [canLay_lists T]
    show (PyData.canLayAll0 (r.map PyData.int) && true) = true
    rw [canLay_ints r]
    rfl
theorem depth_lists : ∀ T : List (List Int), PyData.depthAll (T.map dLst) ≤ 1
  | [] => Nat.zero_le _
  | r :: T => by
    rw [List.map_cons]
    unfold PyData.depthAll
    have h1 := depth_lists T
    have h2 : PyData.depth (dLst r) = 1 := by
      show PyData.depthAll (r.map PyData.int) + 1 = 1
      rw [depth_ints]
    rw [h2]
    omega
theorem shaped_lists (T : List (List Int)) : SeqAt.shaped (.list (T.map dLst)) = true := by
  have h1 : PyData.canLay0 (.list (T.map dLst)) = true := canLay_lists T
  have h2 : PyData.depth (.list (T.map dLst)) ≤ 64 := by
    show PyData.depthAll (T.map dLst) + 1 ≤ 64
    have := depth_lists T
    omega
  unfold SeqAt.shaped
  rw [h1, decide_eq_true h2]
  rfl
theorem deep_book (n : Int) (rows : List (List Int)) : deepD (bookD n rows) ≤ 4 := by
  have h := deep_rows rows
  show max 0 (max (deepDs (rows.map dTup) + 1) 0) + 1 ≤ 4
  omega
theorem tIf_two {t : TT} {ta tb : TE} {σ : L2.St} {H : Hp} {Q : VK} (G : VK → Prop) (c : Bool) (ht : ∀ R : Bool → Hp → Prop, R c H → t σ H R) (ha : c = true → ∀ Q, G Q → ta σ H Q) (hb : c = false → ∀ Q, G Q → tb σ H Q) (g : G Q) : tIf t ta tb σ H Q := by
  refine ht _ ?_
  cases c with
  | true => exact iteT (ha rfl Q g)
  | false => exact iteF (hb rfl Q g)
section
variable {P : Program} {w : World} {K : PySem.W.Frag} {mg : Str → Option Value} {base : Heap} {ad : Nat → Addr} {fd : Nat → FuncData}
def spLaw (K : PySem.W.Frag) : Sp := fun vs H Q _ => ∃ (a : Addr) (ns : List Int), vs = [.ref a] ∧ SqL K H a (ns.map V.int) ∧ ns.length ≤ 63 ∧ ∀ H', Q (.bl true) H'
theorem ok_law (T : Txt K mg ad fd) : FnOk P w K mg base CX0 13 (ad 67) (fd 67) ["_law_script"] (spLaw K) := by
  refine T.F_law.ok sc_law (fun vs H Q E h => ?_) (fun cdv A outer s H vs Q E hr h => ?_)
  · obtain ⟨a, ns, rfl, _⟩ := h
    rfl
  · obtain ⟨a, ns, rfl, hs, hl, k⟩ := h
    refine ⟨_, (pss_cons (ps_set (i := 1) sc_law.nd rfl (Or.inl rfl) (pe_lst (pa_cons (pe_lc (own := [("_law_cell", 12)]) (g := gName 12) rfl sc_law.nd (piL K (pv 0)) (blkOk_by (N := ["_law_script", "_law_s", "_law_wide", "_law_made_here", "_law_names", "_law_lists", "_law_book", "_law_k", "_law_which", "_law_one", "_law_later", "_law_behind_here", "_law_cell"]) (sc := defScope s_law) (by decide +kernel)) (fun _ _ _ _ _ => (pg_name (i := 12) (x := "_law_cell") sc_law.nd rfl (Or.inl rfl))) (fun _ _ _ _ _ => pts_nil) (fun _ _ _ _ _ => (pe_callTy call_int1 (by rfl) T.g_int (by decide +kernel) (pa_cons (pv 12) pa_nil)))) (pa_cons pe_int (pa_cons pe_int (pa_cons (pe_op op_mod (pe_callTy call_int1 (by rfl) T.g_int (by decide +kernel) (pa_cons (pe_op op_add (pe_op op_add (pe_op op_mul pe_int (pe_callB (sumR K) (by rfl) T.g_sum (by decide +kernel) (pa_cons (pv 0) pa_nil))) (pe_op op_mul pe_int (pe_callB (lenS K) (by rfl) T.g_len (by decide +kernel) (pa_cons (pv 0) pa_nil)))) pe_int) pa_nil)) pe_int) pa_nil))))))
  (pss_cons (ps_set (i := 2) sc_law.nd rfl (Or.inl rfl) (pe_cmpR op_eq (pe_call (ok__law_take T) (hr.mono (by decide)) rfl T.m__law_take T.F__law_take.kp (b__law_take T) .nil pass0 (pa_cons (pv 1) (pa_cons pe_int pa_nil))) pe_int (nomark _)))
  (pss_cons (ps_set (i := 3) sc_law.nd rfl (Or.inl rfl) (pe_ifExp (pt_val (pv 2)) (pe_call (ok__law_windows T) (hr.mono (by decide)) rfl T.m__law_windows T.F__law_windows.kp (b__law_windows T) .nil pass0 (pa_cons (pv 1) pa_nil)) (pe_call (ok__law_first T) (hr.mono (by decide)) rfl T.m__law_first T.F__law_first.kp (b__law_first T) .nil pass0 (pa_cons (pv 1) pa_nil))))
  (pss_cons (ps_set (i := 4) sc_law.nd rfl (Or.inl rfl) (pe_listRg rfl rfl T.g_list (prg_1 rfl T.g_range (pe_ix (ixT K) (pv 3) pe_int (fun _ _ => rfl)))))
  (pss_cons (ps_set (i := 5) sc_law.nd rfl (Or.inl rfl) (pe_ix (ixT K) (pv 3) pe_int (fun _ _ => rfl)))
  (pss_cons (ps_set (i := 6) sc_law.nd rfl (Or.inl rfl) (pe_ifExp (pt_val (pv 2)) (pe_call (ok__law_due T) (hr.mono (by decide)) rfl T.m__law_due T.F__law_due.kp (b__law_due T) .nil pass0 (pa_cons (pv 4) (pa_cons (pv 5) pa_nil))) (pe_call (ok__law_made T) (hr.mono (by decide)) rfl T.m__law_made T.F__law_made.kp (b__law_made T) .nil pass0 (pa_cons (pe_ix (ixT K) (pv 3) pe_int (fun _ _ => rfl)) (pa_cons (pv 5) pa_nil)))))
  (pss_cons (ps_for PassesOwn.never rfl (pi_range1 rfl T.g_range (pa_cons pe_int pa_nil)) (pg_name (i := 7) (x := "_law_k") sc_law.nd rfl (Or.inl rfl))
  (pss_cons (ps_if (PW.pt (pw_or (pt_not (pt_val (pe_call (ok__law_same T) (hr.mono (by decide)) rfl T.m__law_same T.F__law_same.kp (b__law_same T) .nil pass0 (pa_cons (pv 6) (pa_cons (pe_call (ok__law_due T) (hr.mono (by decide)) rfl T.m__law_due T.F__law_due.kp (b__law_due T) .nil pass0 (pa_cons (pv 4) (pa_cons (pv 5) pa_nil))) pa_nil))))) (pw_or1 (pt_not (pt_val (pe_call (ok__law_refused T) (hr.mono (by decide)) rfl T.m__law_refused T.F__law_refused.kp (b__law_refused T) .nil pass0 (pa_cons (pv 1) (pa_cons (pv 6) pa_nil)))))))) (pss_one (ps_ret pe_bl))
  pss_nil)
  (pss_cons (ps_if (PW.pt (pw_and (pt_cmpR op_eq (pe_op op_mod (pe_callTy call_int1 (by rfl) T.g_int (by decide +kernel) (pa_cons (pv 7) pa_nil)) pe_int) pe_int (nomark _)) (pw_and1 (pt_not (pt_val (pe_call (ok__law_look T) (hr.mono (by decide)) rfl T.m__law_look T.F__law_look.kp (b__law_look T) .nil pass0 (pa_cons (pv 1) (pa_cons (pv 6) (pa_cons (pv 4) (pa_cons (pv 5) pa_nil)))))))))) (pss_one (ps_ret pe_bl))
  pss_nil)
  (pss_cons (ps_if (pt_cmpR op_eq (pv 7) pe_int (nomark _)) (pss_one (ps_ret (pe_call0 (ok__law_eight T) (hr.mono (by decide)) rfl T.m__law_eight T.F__law_eight.kp (b__law_eight T) .nil pass0)))
  pss_nil)
  (pss_cons (ps_set (i := 8) sc_law.nd rfl (Or.inl rfl) (pe_ix (ixL K) (pe_lst (pa_cons pe_int (pa_cons pe_int (pa_cons pe_int (pa_cons pe_int (pa_cons pe_int (pa_cons pe_int (pa_cons pe_int (pa_cons pe_int (pa_cons pe_int pa_nil)))))))))) (pe_call (ok__law_take T) (hr.mono (by decide)) rfl T.m__law_take T.F__law_take.kp (b__law_take T) .nil pass0 (pa_cons (pv 1) (pa_cons pe_int pa_nil))) (fun _ _ => rfl)))
  (pss_cons (ps_if (PW.pt (pw_or (PW.pt (pw_and (pt_cmpR op_eq (pv 8) pe_int (nomark _)) (pw_and1 (PW.pt (pw_or (pt_cmpR op_lt (pe_callB (lenS K) (by rfl) T.g_len (by decide +kernel) (pa_cons (pv 4) pa_nil)) pe_int (nomark _)) (pw_or1 (pt_cmpR op_gt (pe_callB (lenS K) (by rfl) T.g_len (by decide +kernel) (pa_cons (pe_call (ok__law_pairs T) (hr.mono (by decide)) rfl T.m__law_pairs T.F__law_pairs.kp (b__law_pairs T) .nil pass0 (pa_cons (pv 4) (pa_cons (pv 5) pa_nil))) pa_nil)) pe_int (nomark _)))))))) (pw_or1 (PW.pt (pw_and (pt_cmpR op_eq (pv 8) pe_int (nomark _)) (pw_and1 (pt_cmpR (eqD K (hu64 hr)) (pv 5) (pe_lst pa_nil) (nomark _)))))))) (pss_one (ps_set (i := 8) sc_law.nd rfl (Or.inl rfl) pe_int))
  pss_nil)
  (pss_cons (ps_if (PW.pt (pw_and (pt_cmpR op_eq (pv 8) pe_int (nomark _)) (pw_and1 (pt_cmpR op_gt (pe_callB (lenS K) (by rfl) T.g_len (by decide +kernel) (pa_cons (pv 4) pa_nil)) pe_int (nomark _))))) (pss_one (ps_set (i := 8) sc_law.nd rfl (Or.inl rfl) pe_int))
  pss_nil)
  (pss_cons (ps_set (i := 9) sc_law.nd rfl (Or.inl rfl) (pe_call (ok__law_deed T) (hr.mono (by decide)) rfl T.m__law_deed T.F__law_deed.kp (b__law_deed T) .nil pass0 (pa_cons (pv 1) (pa_cons (pv 8) (pa_cons (pe_callB (lenS K) (by rfl) T.g_len (by decide +kernel) (pa_cons (pv 4) pa_nil)) (pa_cons (pe_callB (lenS K) (by rfl) T.g_len (by decide +kernel) (pa_cons (pv 5) pa_nil)) pa_nil))))))
  (pss_cons (ps_set (i := 10) sc_law.nd rfl (Or.inl rfl) (pe_call (ok__law_do T) (hr.mono (by decide)) rfl T.m__law_do T.F__law_do.kp (b__law_do T) .nil passL (pa_cons (pv 8) (pa_cons (pv 6) (pa_cons (pv 9) (pa_cons (pe_cmpR op_eq (pe_call (ok__law_take T) (hr.mono (by decide)) rfl T.m__law_take T.F__law_take.kp (b__law_take T) .nil pass0 (pa_cons (pv 1) (pa_cons pe_int pa_nil))) pe_int (nomark _)) pa_nil))))))
  (pss_cons (ps_if (pt_not (pt_val (pe_call (ok__law_same T) (hr.mono (by decide)) rfl T.m__law_same T.F__law_same.kp (b__law_same T) .nil pass0 (pa_cons (pv 6) (pa_cons (pe_call (ok__law_due T) (hr.mono (by decide)) rfl T.m__law_due T.F__law_due.kp (b__law_due T) .nil pass0 (pa_cons (pv 4) (pa_cons (pv 5) pa_nil))) pa_nil))))) (pss_one (ps_ret pe_bl))
  pss_nil)
  (pss_cons (ps_set (i := 11) sc_law.nd rfl (Or.inl rfl) (pe_call (ok__law_behind T) (hr.mono (by decide)) rfl T.m__law_behind T.F__law_behind.kp (b__law_behind T) .nil pass0 (pa_cons (pv 8) (pa_cons (pv 4) (pa_cons (pv 5) (pa_cons (pv 9) (pa_cons (pe_op op_mul pe_int (pe_op op_add (pv 7) pe_int)) pa_nil)))))))
  (pss_cons (ps_set (i := 4) sc_law.nd rfl (Or.inl rfl) (pe_ix (ixT K) (pv 11) pe_int (fun _ _ => rfl)))
  (pss_cons (ps_set (i := 5) sc_law.nd rfl (Or.inl rfl) (pe_ix (ixT K) (pv 11) pe_int (fun _ _ => rfl)))
  (pss_one (ps_set (i := 6) sc_law.nd rfl (Or.inl rfl) (pv 10))))))))))))))))
  (pss_one (ps_ret pe_bl))))))))), ?_⟩
    -- the state
    refine ⟨_, rfl, a, rfl, ⟨_, hs⟩, fun D hD => ?_⟩
    refine lcL (K := K) (xs := ns.map V.int) (fun _ => true) (fun j => .int (ns.getD j 0)) hD hs (by rw [List.length_map]; omega) (fun _ _ _ => rfl) (fun j v H3 hj s3 Q3 Q4 k3 k4 => ?_) (fun zs H1 s1 hz1 r1 => ?_)
    · obtain ⟨i, hi, rfl⟩ := lab_at hj
      have eg : ns.getD j 0 = i := by rw [List.getD_eq_getElem?_getD, hi]; rfl
      rw [eg] at k3
      exact ⟨rfl, _, rfl, .inl ⟨_, rfl, k3 rfl _ _ (Same.refl _) (.int _)⟩⟩
    · rw [filter_true] at r1
      have ez : (List.range (ns.map V.int).length).map (fun j => PyData.int (ns.getD j 0)) = ns.map PyData.int := by
        rw [List.length_map]
        exact map_range PyData.int 0 ns
      rw [ez] at r1
      have := r1.ofInts
      subst this
      refine ⟨_, rfl, a, ns, rfl, s1.seq hs, _, _, rfl, rfl, .inl ⟨by decide, by decide⟩, _, rfl, a, _, rfl, .inl (s1.seq hs), _, _, rfl, rfl, .inl ⟨by decide, by decide⟩, _, _, rfl, rfl, _, _, rfl, rfl, .inl ⟨_, rfl, _, _, rfl, rfl, (by show (0 : Int) < 1000039; decide), (by show 4 ≤ sizeLine; decide), fun S hS => ?_⟩⟩
      have DS : D ≠ S := fun e => by rw [← e, hz1] at hS; cases hS
      have s2 := same_upd (o := .lst [V.ref D, V.int 0, V.int 0, V.int ((2 * ns.sum + 307 * (((ns.map V.int).length : Nat) : Int) + 40823) % 1000039)]) hS
      have st : StOk (upd H1 S (.lst [V.ref D, V.int 0, V.int 0, V.int ((2 * ns.sum + 307 * (((ns.map V.int).length : Nat) : Int) + 40823) % 1000039)])) S D := ⟨ns, 0, 0, _, upd_same, DS, s2 _ _ hz1, by omega, Nat.zero_le _, by decide⟩
      generalize upd H1 S (.lst [V.ref D, V.int 0, V.int 0, V.int ((2 * ns.sum + 307 * (((ns.map V.int).length : Nat) : Int) + 40823) % 1000039)]) = Hs at st s2 ⊢
      refine ⟨_, rfl, S, D, 8, rfl, st, by decide, by decide, fun r H2 r0 r1 m2 => ⟨rfl, ?_⟩⟩
      generalize decide (V.int r = V.int 5) = wd
      try dsimp only [gName, tSeq, tAsg, tRet]
      refine tIf_two (fun Q => ∀ (t : Addr) (n : Int) (rows : List (List Int)) (H3 : Hp), 1 ≤ n → n ≤ 40 → rows.length ≤ 20 → (wd = false → rows.length ≤ 5) → (∀ r ∈ rows, FirstRow n r) → Mv S D Hs H3 → Rp K (hide S H3) (.ref t) (.tuple [.int n, .list (rows.map dLst)]) → Q (.ref t) H3) wd (fun R h => ⟨_, rfl, _, rfl, h⟩)
        (fun ew Q g => ⟨_, rfl, S, D, rfl, m2.ok, fun t n rows H3 n0 n1 h1 h2 m3 rt => g t n rows H3 n0 n1 h1 (fun e => by rw [ew] at e; cases e) h2 (m2.trans m3) rt⟩)
        (fun _ Q g => ⟨_, rfl, S, D, rfl, m2.ok, fun t n rows H3 n0 n1 h1 h2 m3 rt => g t n rows H3 n0 (by omega) (by omega) (fun _ => h1) h2 (m2.trans m3) rt⟩) (fun t n rows H3 n0 n1 hrl hr5 hrows m3 rt => ?_)
      obtain ⟨t', ts, et, ht, hzt, rts⟩ := rt.tupA
      cases et
      obtain ⟨x0, vl, d0, d1, ets, eds, rx0, rvl⟩ := rts.len2 (by rw [rts.length]; rfl)
      subst ets
      injection eds with e0 eds
      injection eds with e1 eds
      subst e0 e1
      cases rx0
      have ht3 := seqT (hide_same S H3) ht
      refine ⟨_, rfl, t, _, _, _, rfl, rfl, ht3, rfl, n, rfl, .of_le (by omega) (by omega) (by omega) (by omega), fun Bn hBn => ?_⟩
      have s34 := same_upd (o := .lst (rgV 0 n)) hBn
      have BnS := free_ne m3.ok hBn
      have m4 := m3.then s34
      have rnm : Rp K (hide S (upd H3 Bn (.lst (rgV 0 n)))) (.ref Bn) (dLst (rgI n.toNat)) := LstI.rp ⟨SqL.of (by rw [hide_ne BnS, upd_same, rgV_rgI]), by rw [rgI_length]; omega⟩
      have rvl4 := rvl.same (hide_mono s34)
      have lab := first_lab (rows := rows) n0 n1 hrows
      have efr := first_eq (rows := rows) hrows
      have eln : (((rgI n.toNat).length : Nat) : Int) = n := by rw [rgI_length]; omega
      generalize upd H3 Bn (.lst (rgV 0 n)) = H4 at *
      refine ⟨_, rfl, t, _, _, _, rfl, rfl, seqT s34 ht3, rfl, ?_⟩
      try dsimp only [gName, tSeq, tAsg, tRet]
      refine tIf_two (fun Q => ∀ (vb : V) (H5 : Hp), Mv S D H4 H5 → Rp K (hide S H5) vb (bookD (rgI n.toNat).length (renum (rgI n.toNat) rows)) → Q vb H5) wd (fun R h => ⟨_, rfl, _, rfl, h⟩)
        (fun ew Q g => ⟨_, rfl, _, rfl, .ref Bn, vl, rgI n.toNat, rows, rfl, rp_show rnm, rp_show rvl4, fun r hr x hx => (lab.row r hr).2.2 x hx, fun z H5 s5 rz => g z H5 ((Mv.refl m4.ok).then s5) (rp_hide (m4.then s5).ok (noL_book _ _) rz)⟩)
        (fun ew Q g => ⟨_, rfl, t, _, _, _, rfl, rfl, seqT s34 ht3, rfl, _, rfl, vl, n, rows, rfl, rp_show rvl4, hr5 ew, hrows, n0, fun z H5 s5 rz => g z H5 ((Mv.refl m4.ok).then s5) (by rw [eln, ← efr]; exact rp_hide (m4.then s5).ok (noL_book _ _) rz)⟩) (fun vb H5 m5 rb => ?_)
      have m45 := m4.trans m5
      have rnm5 := m5.rp rnm
      have rvl5 := m5.rp rvl4
      generalize rgI n.toNat = names0 at *
      refine ⟨5, rfl, by decide, by decide, ?_⟩
      refine for_range (lo := 0) (n := 5) (fun i σ H6 => ∃ (vn vl vb : V) (names : List Int) (rows : List (List Int)) (v7 v8 v9 v10 v11 : Option V), σ = [some (.ref a), some (.ref S), some (.bl wd), some (.ref t), some vn, some vl, some vb, v7, v8, v9, v10, v11, none] ∧ Mv S D Hs H6 ∧ Rp K (hide S H6) vn (dLst names) ∧ Rp K (hide S H6) vl (.list (rows.map dLst)) ∧ Rp K (hide S H6) vb (bookD names.length (renum names rows)) ∧ LabOk names rows (100 * (i : Int) + 40) ∧ rows.length ≤ 20 + 2 * i ∧ i ≤ 4)
        ⟨_, _, _, names0, rows, none, none, none, none, none, rfl, m45, rnm5, rvl5, rb, lab.mono (by omega), by omega, by omega⟩ (fun i σ H6 hi ⟨vn, vl, vb, names, rows, v7, v8, v9, v10, v11, e6, m6, rn, rl, rb, lab, lr, li⟩ => ?_) (fun σ H6 ⟨vn, vl, vb, names, rows, v7, v8, v9, v10, v11, e6, m6, rn, rl, rb, lab, lr, li⟩ => ?_)
      · subst e6
        have hmem : ∀ r ∈ rows, ∀ x ∈ r, x ∈ names := fun r hr x hx => (lab.row r hr).2.2 x hx
        have hn0 := lab.l0
        have hn1 := lab.l1
        try dsimp only [gName, tSeq, tAsg, tRet]
        refine tIf_pass (fun H' => Mv S D H6 H') (fun R g => ?_) (fun H7 m7 => ?_)
        · refine ⟨_, rfl, _, rfl, _, rfl, vn, vl, names, rows, rfl, rp_show rn, rp_show rl, hmem, fun z H7 s7 rz => ?_⟩
          refine ⟨vb, z, _, _, rfl, (rp_show rb).same s7, rz, noL_book _ _, deep_book _ _, fun b H8 s8 e8 => ⟨_, rfl, ?_⟩⟩
          have eb : b = true := e8.mpr rfl
          subst eb
          have m8 := (Mv.refl m6.ok).then (s7.trans s8)
          refine iteF ⟨_, rfl, _, rfl, S, D, vb, names.length, renum names rows, rfl, m8.ok, m8.rp rb, by omega, by omega, by rw [renum_len]; omega, lab.rin, fun H9 m9 => ⟨_, rfl, g _ (m8.trans m9)⟩⟩
        · try dsimp only
          refine tIf_pass (fun H' => Mv S D H7 H') (fun R g => ?_) (fun H8 m8 => ?_)
          · refine ⟨_, rfl, .inl ⟨_, rfl, _, _, rfl, rfl, (by show (0 : Int) < 3; decide), rfl, _, rfl, ?_⟩⟩
            cases decide (V.int ((0 + (i : Nat)) % 3) = V.int 1) with
            | false => exact iteF (g _ (Mv.refl m7.ok))
            | true => exact iteT ⟨_, rfl, _, rfl, _, rfl, _, rfl, S, D, vb, vn, vl, names, rows, _, rfl, m7.ok, m7.rp rb, m7.rp rn, m7.rp rl, lab, by omega, fun H9 m9 => ⟨_, rfl, g _ m9⟩⟩
          have m68 := m7.trans m8
          try dsimp only
          by_cases ci : i = 4
          · refine ⟨_, rfl, rfl, _, rfl, ?_⟩
            rw [decide_eq_true (show V.int (0 + (i : Nat)) = V.int 4 by rw [ci]; rfl)]
            exact iteT ⟨rfl, fun H9 s9 => k H9⟩
          refine ⟨_, rfl, rfl, _, rfl, ?_⟩
          rw [decide_eq_false (show ¬ V.int (0 + (i : Nat)) = V.int 4 from fun z => ci (by injection z with z; omega))]
          refine iteF ?_
          try dsimp only [gName, tSeq, tAsg, tRet, tNoPart, tNext]
          refine y_draw (K := K) (S := S) (p := D) (y_lst (ya_cons y_int (ya_cons y_int (ya_cons y_int (ya_cons y_int (ya_cons y_int (ya_cons y_int (ya_cons y_int (ya_cons y_int (ya_cons y_int ya_nil)))))))))) m8.ok (fun H3 Q1 m3 k3 => ⟨_, rfl, S, D, 9, rfl, m3.ok, by decide, by decide, fun r H4 r0 r1 m4 => k3 r H4 r0 (by simpa using r1) m4⟩) fun vw d H9 hd m9 rw9 => ?_
          have m69 := m68.trans m9
          obtain ⟨w0, rfl, hw0⟩ : ∃ w0 : Int, d = .int w0 ∧ 0 ≤ w0 ∧ w0 ≤ 5 := by
            simp only [List.mem_cons, List.not_mem_nil, or_false] at hd
            rcases hd with rfl | rfl | rfl | rfl | rfl | rfl | rfl | rfl | rfl <;> exact ⟨_, rfl, by decide, by decide⟩
          cases rw9
          obtain ⟨an, eA, tA⟩ := (rp_show (m69.rp rn)).lstI
          subst eA
          have rl9 := rp_show (m69.rp rl)
          refine tIf_w (.int w0) rfl (fun H' => Mv S D H9 H') (fun H' => Mv S D H9 H' ∧ (w0 = 1 → 2 ≤ names.length) ∧ (w0 = 2 → 0 < rows.length)) (fun R gt gf => ?_) (fun wv H10 hw => ?_)
          · by_cases c1 : w0 = 1
            · subst c1
              refine ⟨_, rfl, rfl, _, rfl, iteT ⟨_, rfl, an, _, rfl, .inl tA.1, _, _, rfl, rfl, _, rfl, ?_⟩⟩
              rw [List.length_map]
              by_cases c2 : names.length < 2
              · rw [decide_eq_true (show ((names.length : Nat) : Int) < 2 by omega)]
                exact iteT (iteT (gt _ (Mv.refl m9.ok)))
              rw [decide_eq_false (show ¬ ((names.length : Nat) : Int) < 2 by omega)]
              refine iteF ⟨_, rfl, _, rfl, .ref an, vl, names, rows, rfl, tA.rp, rl9, by omega, fun z H10 s10 hz rz => ?_⟩
              obtain ⟨z', xs, ez, hz2, _, _⟩ := rz.lstA
              cases ez
              have m10 := (Mv.refl m9.ok).then s10
              refine ⟨z, _, rfl, .inl hz2, _, _, rfl, rfl, _, rfl, ?_⟩
              cases decide ((17 : Int) < ((xs.length : Nat) : Int)) with
              | true => exact iteT (gt _ m10)
              | false => exact iteF ⟨_, rfl, rfl, _, rfl, iteF (gf _ ⟨m10, fun _ => by omega, fun z => by cases z⟩)⟩
            · refine ⟨_, rfl, rfl, _, rfl, ?_⟩
              rw [decide_eq_false (show ¬ V.int w0 = V.int 1 from fun z => c1 (by injection z))]
              refine iteF (iteF ⟨_, rfl, rfl, _, rfl, ?_⟩)
              by_cases c2 : w0 = 2
              · subst c2
                refine iteT ⟨_, rfl, (by show 0 ≤ sizeLine; decide), fun q hq => ?_⟩
                have sq := same_upd (o := .lst []) hq
                have m10 := (Mv.refl m9.ok).then sq
                refine ⟨.list (rows.map dLst), .list [], (rl9.same sq).dp, (Rp.lst (SqL.of upd_same) (by decide) .nil).dp, shaped_lists _, by decide, _, rfl, ?_⟩
                cases rows with
                | nil => exact gt _ m10
                | cons r rows => exact gf _ ⟨m10, (fun z => by cases z), (fun _ => by rw [List.length_cons]; omega)⟩
              · rw [decide_eq_false (show ¬ V.int w0 = V.int 2 from fun z => c2 (by injection z))]
                exact iteF (gf _ ⟨Mv.refl m9.ok, fun z => absurd z c1, fun z => absurd z c2⟩)
          · have m610 : Mv S D H9 H10 := by
              rcases hw with ⟨_, m⟩ | ⟨_, m, _⟩
              · exact m
              · exact m
            have hwk : ∃ w1 : Int, wv = .int w1 ∧ 0 ≤ w1 ∧ w1 ≤ 5 ∧ (w1 = 1 → 2 ≤ names.length) ∧ (w1 = 2 → 0 < rows.length) := by
              rcases hw with ⟨e, m⟩ | ⟨e, m, h1, h2⟩
              · exact ⟨5, e, by decide, by decide, (fun z => by cases z), (fun z => by cases z)⟩
              · exact ⟨w0, e, hw0.1, hw0.2, h1, h2⟩
            clear hw
            obtain ⟨w1, ew, hw1, hw2, hw3, hw4⟩ := hwk
            subst ew
            have m6a := m69.trans m610
            try dsimp only
            refine tIf_w (.int w1) rfl (fun H' => Mv S D H10 H') (fun H' => Mv S D H10 H' ∧ (w1 = 3 → names.length ≤ 30)) (fun R gt gf => ?_) (fun wv H11 hw => ?_)
            · refine ⟨_, rfl, rfl, _, rfl, ?_⟩
              by_cases c3 : w1 = 3
              · rw [decide_eq_true (show V.int w1 = V.int 3 by rw [c3])]
                have tA2 : SqL K H10 an (names.map V.int) := ((rp_show (m6a.rp rn)).lstI).elim fun a2 ⟨ea, ta⟩ => by cases ea; exact ta.1
                refine iteT ⟨_, rfl, an, _, rfl, .inl tA2, _, _, rfl, rfl, _, rfl, ?_⟩
                rw [List.length_map]
                by_cases c4 : 30 < names.length
                · rw [decide_eq_true (show (30 : Int) < ((names.length : Nat) : Int) by omega)]
                  exact gt _ (Mv.refl m610.ok)
                · rw [decide_eq_false (show ¬ (30 : Int) < ((names.length : Nat) : Int) by omega)]
                  exact gf _ ⟨Mv.refl m610.ok, fun _ => by omega⟩
              · rw [decide_eq_false (show ¬ V.int w1 = V.int 3 from fun z => c3 (by injection z))]
                exact iteF (gf _ ⟨Mv.refl m610.ok, fun z => absurd z c3⟩)
            have m11 : Mv S D H10 H11 := by
              rcases hw with ⟨_, m⟩ | ⟨_, m, _⟩
              · exact m
              · exact m
            have hwk : ∃ w2 : Int, wv = .int w2 ∧ WOk names rows w2 := by
              rcases hw with ⟨e, m⟩ | ⟨e, m, h1⟩
              · exact ⟨4, e, .inr (.inr (.inr (.inr (.inl rfl))))⟩
              · refine ⟨w1, e, ?_⟩
                have : w1 = 0 ∨ w1 = 1 ∨ w1 = 2 ∨ w1 = 3 ∨ w1 = 4 ∨ w1 = 5 := by omega
                rcases this with z | z | z | z | z | z
                · exact .inl z
                · exact .inr (.inl ⟨z, hw3 z⟩)
                · exact .inr (.inr (.inl ⟨z, hw4 z⟩))
                · exact .inr (.inr (.inr (.inl ⟨z, h1 z⟩)))
                · exact .inr (.inr (.inr (.inr (.inl z))))
                · exact .inr (.inr (.inr (.inr (.inr z))))
            clear hw
            obtain ⟨w2, ew, hwo⟩ := hwk
            subst ew
            have m6b := m6a.trans m11
            have hnames : ∀ {H16 : Hp}, Mv S D H6 H16 → SqL K H16 an (names.map V.int) := fun m => ((rp_show (m.rp rn)).lstI).elim fun a2 ⟨ea, ta⟩ => by cases ea; exact ta.1
            have m66 : Mv S D H6 H11 := (m68.trans m9).trans (m610.trans m11)
            obtain ⟨al, xl, eal, hal, hzl, ral⟩ := (m66.rp rl).lstA
            subst eal
            have lxl : xl.length = rows.length := by rw [ral.length, List.length_map]
            refine ⟨_, rfl, _, rfl, _, rfl, an, _, rfl, .inl (hnames m66), _, rfl, al, _, rfl, .inl ((hide_same _ _).seq hal), ?_⟩
            rw [List.length_map, lxl]
            refine ⟨S, D, w2, _, _, rfl, m66.ok, by omega, by omega, ?_⟩
            refine deed_step (K := K) (C := ad 21) (S := S) (p := D) (H := H11) (fresh := 100 * (0 + (i : Nat) + 1)) lab (by omega) (by omega) (by omega) hwo fun v names' rows' H12 m12 step => ?_
            have m67 := m66.trans m12
            -- later = do(..)
            refine ⟨_, rfl, _, rfl, _, rfl, _, rfl, S, D, 2, rfl, m12.ok, by decide, by decide, fun r13 H13 _ _ m13 => ⟨rfl, ?_⟩⟩
            have m68' := m67.trans m13
            refine ⟨w2, vb, v, _, rfl, step.do_ H13 vb _ _ m13 (rp_show (m68'.rp rb)) fun u H14 s14 ru => ?_⟩
            have m69' := m68'.then s14
            have ruh : Rp K (hide S H14) u (bookD names'.length (renum names' rows')) := rp_hide m69'.ok (noL_book _ _) ru
            try dsimp only [gName, tSeq, tAsg, tRet, tNoPart, tNext]
            refine tIf_pass (fun H' => Mv S D H14 H') (fun R g => ?_) (fun H15 m15 => ?_)
            · refine ⟨_, rfl, _, rfl, _, rfl, .ref an, .ref al, names, rows, rfl, rp_show (m69'.rp rn), rp_show (m69'.rp rl), hmem, fun z H7 s7 rz => ?_⟩
              refine ⟨vb, z, _, _, rfl, (rp_show (m69'.rp rb)).same s7, rz, noL_book _ _, deep_book _ _, fun b H8 s8 e8 => ⟨_, rfl, ?_⟩⟩
              have eb : b = true := e8.mpr rfl
              subst eb
              exact g _ ((Mv.refl m69'.ok).then (s7.trans s8))
            have m70 := m69'.trans m15
            have m1215 := (m13.then s14).trans m15
            have ruh15 := m15.rp ruh
            try dsimp only
            refine ⟨_, rfl, _, rfl, _, rfl, _, rfl, _, rfl, _, _, rfl, rfl, _, _, rfl, rfl, .inl ⟨by decide, by decide⟩, ?_⟩
            refine ⟨S, D, w2, .ref an, .ref al, v, _, names, rows, names', rows', rfl, m70.ok, m70.rp rn, m70.rp rl, by omega, by omega, step.beh _ m1215, fun z H16 m16 rz => ?_⟩
            obtain ⟨zt, zxs, ezt, hzt2, lzt, rzs⟩ := rz.tupA
            subst ezt
            obtain ⟨x1, x2, e1', e2', ezx, eds2, rx1, rx2⟩ := rzs.len2 (by rw [rzs.length]; rfl)
            subst ezx
            injection eds2 with ea1 eds2
            injection eds2 with ea2 eds2
            subst ea1 ea2
            have hz3 := seqT (hide_same S H16) hzt2
            have m71 := m70.trans m16
            refine ⟨_, rfl, zt, _, _, _, rfl, rfl, hz3, at_of (j := 0) rfl rfl, _, rfl, zt, _, _, _, rfl, rfl, hz3, at_of (j := 1) rfl rfl, _, rfl, ?_⟩
            refine ⟨x1, x2, u, names', rows', _, _, _, _, _, rfl, m6.trans m71, rx1, rx2, m16.rp ruh15, step.lab.mono (by omega), ?_, ?_⟩
            · have := step.len
              omega
            · omega
      · omega
end
end LK
namespace LK
open PySem PySem.Spec PyProof.Rows L2
/-- what is found of a def at the top -/
theorem dfn {K : PySem.W.Frag} {h : Heap} {mg : Str → Option Value} (X : K.In h) (G : h.Ns mainGlobals mg) {x : Str} {st : Stmt} {f : Addr} {oc : Value} {od an : Option Addr} {sl : Array (Option Value)} {kV dc pm cd ct : Value}
    (a : PySem.W.nsIn K mainGlobals x = some (some (.ref f))) (l : K.lookup f = some ⟨oc, od, .func (PySem.W.fnOf x x (defArgs st) (defBody st) (defScope st) .none kV dc pm an cd ct), sl⟩) (c : PySem.W.codeIn K cd x = true) (k : PySem.W.keepIn K (.ref f) = true) :
    ∃ f fd, mg x = some (.ref f) ∧ Fun K x x st f fd := ⟨f, _, PySem.W.mg_of X G a, fun_mk (st := st) l c k⟩
theorem exm_self {K : PySem.W.Frag} {S : Addr} (h1 : PySem.W.subIn K (.ref S) (.type "BaseException") = some true) (h2 : PySem.W.isClsIn K S = true) (h3 : PySem.W.typeIn K (.ref S) = some (.type "type")) (h4 : PySem.W.subIn K (.ref S) (.ref S) = some true) :
    PySem.W.exmOne K (.ref S) (.ref S) = some true := by
  have e1 : (PySem.W.subIn K (.ref S) (.type "BaseException") == some true) = true := by rw [h1] <;> rfl
  have e2 : ((PySem.W.clsIn K S).isSome && PySem.W.typeIn K (.ref S) == some (.type "type")) = true := by
    have h2' : (PySem.W.clsIn K S).isSome = true := h2
    rw [h2', h3] <;> rfl
  show (if (PySem.W.subIn K (.ref S) (.type "BaseException") == some true) = true then (if ((PySem.W.clsIn K S).isSome && PySem.W.typeIn K (.ref S) == some (.type "type")) = true then PySem.W.subIn K (.ref S) (.ref S) else none) else none) = some true
  rw [if_pos e1, if_pos e2]
  exact h4
/-- what is found of an exception class with its own __init__(self, word, at) -/
structure ExFact (K : PySem.W.Frag) (mg : Str → Option Value) (n q : Str) (st : Stmt) (C f : Addr) (fd : FuncData) : Prop where
  ox : OexC K C
  m : mg n = some (.ref C)
  i : PySem.W.findIn K (.ref C) "__init__" = some (some (.ref f))
  t : PySem.W.typeIn K (.ref f) = some (.type "function")
  F : Fun K "__init__" q st f fd
  nw : PySem.W.findIn K (.ref C) "word" = some none
  na : PySem.W.findIn K (.ref C) "at" = some none
  x : XfC K C
  e : PySem.W.exmOne K (.ref C) (.ref C) = some true
theorem exf {K : PySem.W.Frag} {h : Heap} {mg : Str → Option Value} (X : K.In h) (G : h.Ns mainGlobals mg) {n q : Str} {st : Stmt} {C f : Addr} {nm qn : Str} {N : Addr} {bs bm : List Value} {sn : List Str} {sub : List Value} {ab : Bool} {col : Option Bool} {dd : Option Addr} {m0 m1 m2 m3 m5 : Option Value}
    {oc : Value} {od an : Option Addr} {sl : Array (Option Value)} {kV dc pm cd ct : Value}
    (aC : PySem.W.nsIn K mainGlobals n = some (some (.ref C)))
    (xL : K.lookup C = some (excClassObj nm qn C N bs bm true sn sub ab col dd m0 m1 m2 m3 m5 "ValueError.__new__")) (rv : PySem.HandSPX.refsVE bm = true)
    (sa : PySem.W.findIn K (.ref C) "__setattr__" = some (some (.builtin "object.__setattr__"))) (ga : PySem.W.findIn K (.ref C) "__getattribute__" = some (some (.builtin "BaseException.__getattribute__"))) (gg : PySem.W.findIn K (.ref C) "__getattr__" = some none)
    (nw : PySem.W.findIn K (.ref C) "word" = some none) (na : PySem.W.findIn K (.ref C) "at" = some none)
    (a1 : PySem.W.findIn K (.ref C) "__init__" = some (some (.ref f))) (t1 : PySem.W.typeIn K (.ref f) = some (.type "function"))
    (l1 : K.lookup f = some ⟨oc, od, .func (PySem.W.fnOf "__init__" q (defArgs st) (defBody st) (defScope st) .none kV dc pm an cd ct), sl⟩) (c1 : PySem.W.codeIn K cd q = true) (k1 : PySem.W.keepIn K (.ref f) = true)
    (kC : PySem.W.keepIn K (.ref C) = true) (eC : PySem.W.subIn K (.ref C) (.type "BaseException") = some true) (tC : PySem.W.typeIn K (.ref C) = some (.type "type")) (hC : PySem.W.hasDictIn K C = true) (iC : PySem.W.isClsIn K C = true) (sC : PySem.W.subIn K (.ref C) (.ref C) = some true) :
    ∃ C f fd, ExFact K mg n q st C f fd :=
  ⟨C, f, _, ⟨⟨nm, qn, N, bs, bm, sn, sub, ab, col, dd, m0, m1, m2, m3, m5, xL, rv⟩, sa, eC, tC, kC⟩, PySem.W.mg_of X G aC, a1, t1, fun_mk (st := st) l1 c1 k1, nw, na, ⟨ga, gg, eC, hC⟩, exm_self eC iC tC sC⟩
theorem walk {l : PySem.W.OpenLaw} {q : Program} {loose : List Str} {XP : (Str → Option Value) → Heap → Prop} {YP : World → Heap → Prop} {d : DefRec} {K : Params → PySem.W.Frag} (hn : l.most = some 63) (hdf : d.params.defaults = [])
    (hY : ∀ (w : World) (h : Heap), YP w h → (K w.params).In h)
    (F : ∀ (w : World) (mg : Str → Option Value) (fa : Addr) (h : Heap), (K w.params).In h → h.Ns mainGlobals mg → mg d.name = some (.ref fa) →
      ∃ fd : FuncData, (∀ (s : Shared) (u : Value), BindsTo s fd ⟨[u], []⟩ [("_law_script", u)]) ∧ ∀ base : Heap, (K w.params).In base → base.Ns mainGlobals mg → FnOk l.prog w (K w.params) mg base CX0 13 fa fd ["_law_script"] (spLaw (K w.params))) :
    PySem.W.WalkO q loose XP YP l.row.toRowW d [] (fun f vs => PySem.call f vs) :=
  L2.walk_of (n := 63) (k := 13) (x := "_law_script") (CX := fun _ => CX0) (sp := fun w => spLaw (K w.params)) hn (by decide) hdf ⟨rfl, by decide, by decide⟩ hY F (fun _ _ a ns hl _ hS => ⟨a, ns, rfl, hS, hl, fun _ => rfl⟩) fun _ _ _ _ _ z => z
theorem all_mk {P : Program} {w : World} {K : PySem.W.Frag} {mg : Str → Option Value} {fa : Addr} (hfa : mg ("law" : Str) = some (.ref fa))
    (h1 : ∃ f fd, mg ("is_integer" : Str) = some (.ref f) ∧ Fun K "is_integer" "is_integer" s_is_integer f fd)
    (h2 : ∃ f fd, mg ("is_number" : Str) = some (.ref f) ∧ Fun K "is_number" "is_number" s_is_number f fd)
    (h3 : ∃ f fd, mg ("is_below" : Str) = some (.ref f) ∧ Fun K "is_below" "is_below" s_is_below f fd)
    (h4 : ∃ f fd, mg ("is_rising" : Str) = some (.ref f) ∧ Fun K "is_rising" "is_rising" s_is_rising f fd)
    (h5 : ∃ f fd, mg ("are_below" : Str) = some (.ref f) ∧ Fun K "are_below" "are_below" s_are_below f fd)
    (h6 : ∃ f fd, mg ("are_unlike_below" : Str) = some (.ref f) ∧ Fun K "are_unlike_below" "are_unlike_below" s_are_unlike_below f fd)
    (h7 : ∃ f fd, mg ("is_lot" : Str) = some (.ref f) ∧ Fun K "is_lot" "is_lot" s_is_lot f fd)
    (h8 : ∃ f fd, mg ("is_line" : Str) = some (.ref f) ∧ Fun K "is_line" "is_line" s_is_line f fd)
    (h10 : ∃ f fd, mg ("is_listed" : Str) = some (.ref f) ∧ Fun K "is_listed" "is_listed" s_is_listed f fd)
    (h11 : ∃ f fd, mg ("is_book" : Str) = some (.ref f) ∧ Fun K "is_book" "is_book" s_is_book f fd)
    (h12 : ∃ f fd, mg ("are_tied" : Str) = some (.ref f) ∧ Fun K "are_tied" "are_tied" s_are_tied f fd)
    (h13 : ∃ f fd, mg ("is_thing" : Str) = some (.ref f) ∧ Fun K "is_thing" "is_thing" s_is_thing f fd)
    (h14 : ∃ f fd, mg ("is_tie" : Str) = some (.ref f) ∧ Fun K "is_tie" "is_tie" s_is_tie f fd)
    (h15 : ∃ f fd, mg ("is_row" : Str) = some (.ref f) ∧ Fun K "is_row" "is_row" s_is_row f fd)
    (h22 : ∃ f fd, mg ("need" : Str) = some (.ref f) ∧ Fun K "need" "need" s_need f fd)
    (h24 : ∃ f fd, mg ("kept_to" : Str) = some (.ref f) ∧ Fun K "kept_to" "kept_to" s_kept_to f fd)
    (h25 : ∃ f fd, mg ("with_list" : Str) = some (.ref f) ∧ Fun K "with_list" "with_list" s_with_list f fd)
    (h26 : ∃ f fd, mg ("without_list" : Str) = some (.ref f) ∧ Fun K "without_list" "without_list" s_without_list f fd)
    (h27 : ∃ f fd, mg ("beside" : Str) = some (.ref f) ∧ Fun K "beside" "beside" s_beside f fd)
    (h28 : ∃ f fd, mg ("renumbered" : Str) = some (.ref f) ∧ Fun K "renumbered" "renumbered" s_renumbered f fd)
    (h29 : ∃ f fd, mg ("rebased" : Str) = some (.ref f) ∧ Fun K "rebased" "rebased" s_rebased f fd)
    (h30 : ∃ f fd, mg ("mirrored" : Str) = some (.ref f) ∧ Fun K "mirrored" "mirrored" s_mirrored f fd)
    (h32 : ∃ f fd, mg ("mask_of" : Str) = some (.ref f) ∧ Fun K "mask_of" "mask_of" s_mask_of f fd)
    (h33 : ∃ f fd, mg ("things_of" : Str) = some (.ref f) ∧ Fun K "things_of" "things_of" s_things_of f fd)
    (h34 : ∃ f fd, mg ("count_of" : Str) = some (.ref f) ∧ Fun K "count_of" "count_of" s_count_of f fd)
    (h35 : ∃ f fd, mg ("near_masks" : Str) = some (.ref f) ∧ Fun K "near_masks" "near_masks" s_near_masks f fd)
    (h37 : ∃ f fd, mg ("check_list" : Str) = some (.ref f) ∧ Fun K "check_list" "check_list" s_check_list f fd)
    (h38 : ∃ f fd, mg ("tie_count" : Str) = some (.ref f) ∧ Fun K "tie_count" "tie_count" s_tie_count f fd)
    (h39 : ∃ f fd, mg ("lets_book" : Str) = some (.ref f) ∧ Fun K "lets_book" "lets_book" s_lets_book f fd)
    (h41 : ∃ f fd, mg ("book_of" : Str) = some (.ref f) ∧ Fun K "book_of" "book_of" s_book_of f fd)
    (h42 : ∃ f fd, mg ("ties_of" : Str) = some (.ref f) ∧ Fun K "ties_of" "ties_of" s_ties_of f fd)
    (h43 : ∃ f fd, mg ("is_tied" : Str) = some (.ref f) ∧ Fun K "is_tied" "is_tied" s_is_tied f fd)
    (h44 : ∃ f fd, mg ("near_of" : Str) = some (.ref f) ∧ Fun K "near_of" "near_of" s_near_of f fd)
    (h45 : ∃ f fd, mg ("between_in" : Str) = some (.ref f) ∧ Fun K "between_in" "between_in" s_between_in f fd)
    (h46 : ∃ f fd, mg ("between_of" : Str) = some (.ref f) ∧ Fun K "between_of" "between_of" s_between_of f fd)
    (h48 : ∃ f fd, mg ("_law_take" : Str) = some (.ref f) ∧ Fun K "_law_take" "_law_take" s__law_take f fd)
    (h49 : ∃ f fd, mg ("_law_same" : Str) = some (.ref f) ∧ Fun K "_law_same" "_law_same" s__law_same f fd)
    (h50 : ∃ f fd, mg ("_law_is_number" : Str) = some (.ref f) ∧ Fun K "_law_is_number" "_law_is_number" s__law_is_number f fd)
    (h51 : ∃ f fd, mg ("_law_dealt" : Str) = some (.ref f) ∧ Fun K "_law_dealt" "_law_dealt" s__law_dealt f fd)
    (h52 : ∃ f fd, mg ("_law_first" : Str) = some (.ref f) ∧ Fun K "_law_first" "_law_first" s__law_first f fd)
    (h53 : ∃ f fd, mg ("_law_windows" : Str) = some (.ref f) ∧ Fun K "_law_windows" "_law_windows" s__law_windows f fd)
    (h54 : ∃ f fd, mg ("_law_made" : Str) = some (.ref f) ∧ Fun K "_law_made" "_law_made" s__law_made f fd)
    (h55 : ∃ f fd, mg ("_law_eight" : Str) = some (.ref f) ∧ Fun K "_law_eight" "_law_eight" s__law_eight f fd)
    (h56 : ∃ f fd, mg ("_law_due" : Str) = some (.ref f) ∧ Fun K "_law_due" "_law_due" s__law_due f fd)
    (h57 : ∃ f fd, mg ("_law_pairs" : Str) = some (.ref f) ∧ Fun K "_law_pairs" "_law_pairs" s__law_pairs f fd)
    (h58 : ∃ f fd, mg ("_law_do" : Str) = some (.ref f) ∧ Fun K "_law_do" "_law_do" s__law_do f fd)
    (h59 : ∃ f fd, mg ("_law_deed" : Str) = some (.ref f) ∧ Fun K "_law_deed" "_law_deed" s__law_deed f fd)
    (h60 : ∃ f fd, mg ("_law_behind" : Str) = some (.ref f) ∧ Fun K "_law_behind" "_law_behind" s__law_behind f fd)
    (h61 : ∃ f fd, mg ("_law_is_row" : Str) = some (.ref f) ∧ Fun K "_law_is_row" "_law_is_row" s__law_is_row f fd)
    (h62 : ∃ f fd, mg ("_law_kinds" : Str) = some (.ref f) ∧ Fun K "_law_kinds" "_law_kinds" s__law_kinds f fd)
    (h63 : ∃ f fd, mg ("_law_look" : Str) = some (.ref f) ∧ Fun K "_law_look" "_law_look" s__law_look f fd)
    (h64 : ∃ f fd, mg ("_law_ask" : Str) = some (.ref f) ∧ Fun K "_law_ask" "_law_ask" s__law_ask f fd)
    (h65 : ∃ f fd, mg ("_law_bad" : Str) = some (.ref f) ∧ Fun K "_law_bad" "_law_bad" s__law_bad f fd)
    (h66 : ∃ f fd, mg ("_law_refused" : Str) = some (.ref f) ∧ Fun K "_law_refused" "_law_refused" s__law_refused f fd)
    (h67 : ∃ f fd, mg ("law" : Str) = some (.ref f) ∧ Fun K "law" "law" s_law f fd)
    (c20 : ∃ C f fd, ExFact K mg "InvalidPaper" "InvalidPaper.__init__" (inClass (topS 20) 0) C f fd)
    (c21 : ∃ C f fd, ExFact K mg "NotUsable" "NotUsable.__init__" (inClass (topS 21) 0) C f fd)
    (g_isinstance : mg ("isinstance" : Str) = none)
    (g_int : mg ("int" : Str) = none)
    (g_bool : mg ("bool" : Str) = none)
    (g_tuple : mg ("tuple" : Str) = none)
    (g_str : mg ("str" : Str) = none)
    (g_list : mg ("list" : Str) = none)
    (g_len : mg ("len" : Str) = none)
    (g_all : mg ("all" : Str) = none)
    (g_any : mg ("any" : Str) = none)
    (g_set : mg ("set" : Str) = none)
    (g_sorted : mg ("sorted" : Str) = none)
    (g_range : mg ("range" : Str) = none)
    (g_enumerate : mg ("enumerate" : Str) = none)
    (g_sum : mg ("sum" : Str) = none)
    (g_min : mg ("min" : Str) = none)
    (g_max : mg ("max" : Str) = none)
    (g_abs : mg ("abs" : Str) = none)
    (g_reversed : mg ("reversed" : Str) = none) :
    ∃ fd : FuncData, (∀ (s : Shared) (u : Value), BindsTo s fd ⟨[u], []⟩ [("_law_script", u)]) ∧ ∀ base : Heap, FnOk P w K mg base CX0 13 fa fd ["_law_script"] (spLaw K) := by
  obtain ⟨f1, d1, m1, F1⟩ := h1
  obtain ⟨f2, d2, m2, F2⟩ := h2
  obtain ⟨f3, d3, m3, F3⟩ := h3
  obtain ⟨f4, d4, m4, F4⟩ := h4
  obtain ⟨f5, d5, m5, F5⟩ := h5
  obtain ⟨f6, d6, m6, F6⟩ := h6
  obtain ⟨f7, d7, m7, F7⟩ := h7
  obtain ⟨f8, d8, m8, F8⟩ := h8
  obtain ⟨f10, d10, m10, F10⟩ := h10
  obtain ⟨f11, d11, m11, F11⟩ := h11
  obtain ⟨f12, d12, m12, F12⟩ := h12
  obtain ⟨f13, d13, m13, F13⟩ := h13
  obtain ⟨f14, d14, m14, F14⟩ := h14
  obtain ⟨f15, d15, m15, F15⟩ := h15
  obtain ⟨f22, d22, m22, F22⟩ := h22
  obtain ⟨f24, d24, m24, F24⟩ := h24
  obtain ⟨f25, d25, m25, F25⟩ := h25
  obtain ⟨f26, d26, m26, F26⟩ := h26
  obtain ⟨f27, d27, m27, F27⟩ := h27
  obtain ⟨f28, d28, m28, F28⟩ := h28
  obtain ⟨f29, d29, m29, F29⟩ := h29
  obtain ⟨f30, d30, m30, F30⟩ := h30
  obtain ⟨f32, d32, m32, F32⟩ := h32
  obtain ⟨f33, d33, m33, F33⟩ := h33
  obtain ⟨f34, d34, m34, F34⟩ := h34
  obtain ⟨f35, d35, m35, F35⟩ := h35
  obtain ⟨f37, d37, m37, F37⟩ := h37
  obtain ⟨f38, d38, m38, F38⟩ := h38
  obtain ⟨f39, d39, m39, F39⟩ := h39
  obtain ⟨f41, d41, m41, F41⟩ := h41
  obtain ⟨f42, d42, m42, F42⟩ := h42
  obtain ⟨f43, d43, m43, F43⟩ := h43
  obtain ⟨f44, d44, m44, F44⟩ := h44
  obtain ⟨f45, d45, m45, F45⟩ := h45
  obtain ⟨f46, d46, m46, F46⟩ := h46
  obtain ⟨f48, d48, m48, F48⟩ := h48
  obtain ⟨f49, d49, m49, F49⟩ := h49
  obtain ⟨f50, d50, m50, F50⟩ := h50
  obtain ⟨f51, d51, m51, F51⟩ := h51
  obtain ⟨f52, d52, m52, F52⟩ := h52
  obtain ⟨f53, d53, m53, F53⟩ := h53
  obtain ⟨f54, d54, m54, F54⟩ := h54
  obtain ⟨f55, d55, m55, F55⟩ := h55
  obtain ⟨f56, d56, m56, F56⟩ := h56
  obtain ⟨f57, d57, m57, F57⟩ := h57
  obtain ⟨f58, d58, m58, F58⟩ := h58
  obtain ⟨f59, d59, m59, F59⟩ := h59
  obtain ⟨f60, d60, m60, F60⟩ := h60
  obtain ⟨f61, d61, m61, F61⟩ := h61
  obtain ⟨f62, d62, m62, F62⟩ := h62
  obtain ⟨f63, d63, m63, F63⟩ := h63
  obtain ⟨f64, d64, m64, F64⟩ := h64
  obtain ⟨f65, d65, m65, F65⟩ := h65
  obtain ⟨f66, d66, m66, F66⟩ := h66
  obtain ⟨f67, d67, m67, F67⟩ := h67
  obtain ⟨f20, f1020, d1020, E20⟩ := c20
  obtain ⟨f21, f1021, d1021, E21⟩ := c21
  have T : Txt K mg (fun i => if i = 1020 then f1020 else if i = 1021 then f1021 else ([0, f1, f2, f3, f4, f5, f6, f7, f8, 0, f10, f11, f12, f13, f14, f15, 0, 0, 0, 0, f20, f21, f22, 0, f24, f25, f26, f27, f28, f29, f30, 0, f32, f33, f34, f35, 0, f37, f38, f39, 0, f41, f42, f43, f44, f45, f46, 0, f48, f49, f50, f51, f52, f53, f54, f55, f56, f57, f58, f59, f60, f61, f62, f63, f64, f65, f66, f67].getD i 0)) (fun i => if i = 1020 then d1020 else if i = 1021 then d1021 else ([d67, d1, d2, d3, d4, d5, d6, d7, d8, d67, d10, d11, d12, d13, d14, d15, d67, d67, d67, d67, d67, d67, d22, d67, d24, d25, d26, d27, d28, d29, d30, d67, d32, d33, d34, d35, d67, d37, d38, d39, d67, d41, d42, d43, d44, d45, d46, d67, d48, d49, d50, d51, d52, d53, d54, d55, d56, d57, d58, d59, d60, d61, d62, d63, d64, d65, d66, d67].getD i d67)) := {
    g_isinstance := g_isinstance
    g_int := g_int
    g_bool := g_bool
    g_tuple := g_tuple
    g_str := g_str
    g_list := g_list
    g_len := g_len
    g_all := g_all
    g_any := g_any
    g_set := g_set
    g_sorted := g_sorted
    g_range := g_range
    g_enumerate := g_enumerate
    g_sum := g_sum
    g_min := g_min
    g_max := g_max
    g_abs := g_abs
    g_reversed := g_reversed
    m_is_integer := m1
    F_is_integer := F1
    m_is_number := m2
    F_is_number := F2
    m_is_below := m3
    F_is_below := F3
    m_is_rising := m4
    F_is_rising := F4
    m_are_below := m5
    F_are_below := F5
    m_are_unlike_below := m6
    F_are_unlike_below := F6
    m_is_lot := m7
    F_is_lot := F7
    m_is_line := m8
    F_is_line := F8
    m_is_listed := m10
    F_is_listed := F10
    m_is_book := m11
    F_is_book := F11
    m_are_tied := m12
    F_are_tied := F12
    m_is_thing := m13
    F_is_thing := F13
    m_is_tie := m14
    F_is_tie := F14
    m_is_row := m15
    F_is_row := F15
    m_need := m22
    F_need := F22
    m_kept_to := m24
    F_kept_to := F24
    m_with_list := m25
    F_with_list := F25
    m_without_list := m26
    F_without_list := F26
    m_beside := m27
    F_beside := F27
    m_renumbered := m28
    F_renumbered := F28
    m_rebased := m29
    F_rebased := F29
    m_mirrored := m30
    F_mirrored := F30
    m_mask_of := m32
    F_mask_of := F32
    m_things_of := m33
    F_things_of := F33
    m_count_of := m34
    F_count_of := F34
    m_near_masks := m35
    F_near_masks := F35
    m_check_list := m37
    F_check_list := F37
    m_tie_count := m38
    F_tie_count := F38
    m_lets_book := m39
    F_lets_book := F39
    m_book_of := m41
    F_book_of := F41
    m_ties_of := m42
    F_ties_of := F42
    m_is_tied := m43
    F_is_tied := F43
    m_near_of := m44
    F_near_of := F44
    m_between_in := m45
    F_between_in := F45
    m_between_of := m46
    F_between_of := F46
    m__law_take := m48
    F__law_take := F48
    m__law_same := m49
    F__law_same := F49
    m__law_is_number := m50
    F__law_is_number := F50
    m__law_dealt := m51
    F__law_dealt := F51
    m__law_first := m52
    F__law_first := F52
    m__law_windows := m53
    F__law_windows := F53
    m__law_made := m54
    F__law_made := F54
    m__law_eight := m55
    F__law_eight := F55
    m__law_due := m56
    F__law_due := F56
    m__law_pairs := m57
    F__law_pairs := F57
    m__law_do := m58
    F__law_do := F58
    m__law_deed := m59
    F__law_deed := F59
    m__law_behind := m60
    F__law_behind := F60
    m__law_is_row := m61
    F__law_is_row := F61
    m__law_kinds := m62
    F__law_kinds := F62
    m__law_look := m63
    F__law_look := F63
    m__law_ask := m64
    F__law_ask := F64
    m__law_bad := m65
    F__law_bad := F65
    m__law_refused := m66
    F__law_refused := F66
    m_law := m67
    F_law := F67
    ox_InvalidPaper := E20.ox
    m_InvalidPaper := E20.m
    i_InvalidPaper := E20.i
    t_InvalidPaper := E20.t
    F_init_InvalidPaper := E20.F
    n_InvalidPaper_word := E20.nw
    n_InvalidPaper_at := E20.na
    x_InvalidPaper := E20.x
    e_InvalidPaper := E20.e
    ox_NotUsable := E21.ox
    m_NotUsable := E21.m
    i_NotUsable := E21.i
    t_NotUsable := E21.t
    F_init_NotUsable := E21.F
    n_NotUsable_word := E21.nw
    n_NotUsable_at := E21.na
    x_NotUsable := E21.x
    e_NotUsable := E21.e
  }
  have e : fa = f67 := by
    have := hfa.symm.trans m67
    cases this
    rfl
  subst e
  obtain ⟨oc, od, kV, doc, pm, an, cdv, ct, osl, e2, lk, hcd⟩ := F67.ex
  exact ⟨d67, fun s u => by rw [e2]; exact .of_eq rfl, fun base => ok_law T⟩
end LK
section
open PySem PySem.W PyProof.Rows
set_option maxRecDepth 100000
set_option maxHeartbeats 0
open_top lk_head for PySem.Challenge.rw_listbylist_k01_whole_books_made_and_chan
end
open PySem PySem.W PyProof.Rows
set_option maxRecDepth 100000 in
set_option maxHeartbeats 0 in
theorem PySem.Challenge.cw_listbylist_k01_whole_books_made_and_chan_holds : PySem.Challenge.rw_listbylist_k01_whole_books_made_and_chan.Holds :=
  lk_head (by
    refine LK.walk (l := PySem.Challenge.rw_listbylist_k01_whole_books_made_and_chan) rfl rfl (fun w h Y => PySem.W.kIn_of Y) ?F
    case F =>
      intro w mg fa h KX G hmg
      have h1 := LK.dfn (x := "is_integer") (st := LK.s_is_integer) KX G (by k_is) (by k_is) (by k_is) (by k_is)
      have h2 := LK.dfn (x := "is_number") (st := LK.s_is_number) KX G (by k_is) (by k_is) (by k_is) (by k_is)
      have h3 := LK.dfn (x := "is_below") (st := LK.s_is_below) KX G (by k_is) (by k_is) (by k_is) (by k_is)
      have h4 := LK.dfn (x := "is_rising") (st := LK.s_is_rising) KX G (by k_is) (by k_is) (by k_is) (by k_is)
      have h5 := LK.dfn (x := "are_below") (st := LK.s_are_below) KX G (by k_is) (by k_is) (by k_is) (by k_is)
      have h6 := LK.dfn (x := "are_unlike_below") (st := LK.s_are_unlike_below) KX G (by k_is) (by k_is) (by k_is) (by k_is)
      have h7 := LK.dfn (x := "is_lot") (st := LK.s_is_lot) KX G (by k_is) (by k_is) (by k_is) (by k_is)
      have h8 := LK.dfn (x := "is_line") (st := LK.s_is_line) KX G (by k_is) (by k_is) (by k_is) (by k_is)
      have h10 := LK.dfn (x := "is_listed") (st := LK.s_is_listed) KX G (by k_is) (by k_is) (by k_is) (by k_is)
      have h11 := LK.dfn (x := "is_book") (st := LK.s_is_book) KX G (by k_is) (by k_is) (by k_is) (by k_is)
      have h12 := LK.dfn (x := "are_tied") (st := LK.s_are_tied) KX G (by k_is) (by k_is) (by k_is) (by k_is)
      have h13 := LK.dfn (x := "is_thing") (st := LK.s_is_thing) KX G (by k_is) (by k_is) (by k_is) (by k_is)
      have h14 := LK.dfn (x := "is_tie") (st := LK.s_is_tie) KX G (by k_is) (by k_is) (by k_is) (by k_is)
      have h15 := LK.dfn (x := "is_row") (st := LK.s_is_row) KX G (by k_is) (by k_is) (by k_is) (by k_is)
      have h22 := LK.dfn (x := "need") (st := LK.s_need) KX G (by k_is) (by k_is) (by k_is) (by k_is)
      have h24 := LK.dfn (x := "kept_to") (st := LK.s_kept_to) KX G (by k_is) (by k_is) (by k_is) (by k_is)
      have h25 := LK.dfn (x := "with_list") (st := LK.s_with_list) KX G (by k_is) (by k_is) (by k_is) (by k_is)
      have h26 := LK.dfn (x := "without_list") (st := LK.s_without_list) KX G (by k_is) (by k_is) (by k_is) (by k_is)
      have h27 := LK.dfn (x := "beside") (st := LK.s_beside) KX G (by k_is) (by k_is) (by k_is) (by k_is)
      have h28 := LK.dfn (x := "renumbered") (st := LK.s_renumbered) KX G (by k_is) (by k_is) (by k_is) (by k_is)
      have h29 := LK.dfn (x := "rebased") (st := LK.s_rebased) KX G (by k_is) (by k_is) (by k_is) (by k_is)
      have h30 := LK.dfn (x := "mirrored") (st := LK.s_mirrored) KX G (by k_is) (by k_is) (by k_is) (by k_is)
      have h32 := LK.dfn (x := "mask_of") (st := LK.s_mask_of) KX G (by k_is) (by k_is) (by k_is) (by k_is)
      have h33 := LK.dfn (x := "things_of") (st := LK.s_things_of) KX G (by k_is) (by k_is) (by k_is) (by k_is)
      have h34 := LK.dfn (x := "count_of") (st := LK.s_count_of) KX G (by k_is) (by k_is) (by k_is) (by k_is)
      have h35 := LK.dfn (x := "near_masks") (st := LK.s_near_masks) KX G (by k_is) (by k_is) (by k_is) (by k_is)
      have h37 := LK.dfn (x := "check_list") (st := LK.s_check_list) KX G (by k_is) (by k_is) (by k_is) (by k_is)
      have h38 := LK.dfn (x := "tie_count") (st := LK.s_tie_count) KX G (by k_is) (by k_is) (by k_is) (by k_is)
      have h39 := LK.dfn (x := "lets_book") (st := LK.s_lets_book) KX G (by k_is) (by k_is) (by k_is) (by k_is)
      have h41 := LK.dfn (x := "book_of") (st := LK.s_book_of) KX G (by k_is) (by k_is) (by k_is) (by k_is)
      have h42 := LK.dfn (x := "ties_of") (st := LK.s_ties_of) KX G (by k_is) (by k_is) (by k_is) (by k_is)
      have h43 := LK.dfn (x := "is_tied") (st := LK.s_is_tied) KX G (by k_is) (by k_is) (by k_is) (by k_is)
      have h44 := LK.dfn (x := "near_of") (st := LK.s_near_of) KX G (by k_is) (by k_is) (by k_is) (by k_is)
      have h45 := LK.dfn (x := "between_in") (st := LK.s_between_in) KX G (by k_is) (by k_is) (by k_is) (by k_is)
      have h46 := LK.dfn (x := "between_of") (st := LK.s_between_of) KX G (by k_is) (by k_is) (by k_is) (by k_is)
      have h48 := LK.dfn (x := "_law_take") (st := LK.s__law_take) KX G (by k_is) (by k_is) (by k_is) (by k_is)
      have h49 := LK.dfn (x := "_law_same") (st := LK.s__law_same) KX G (by k_is) (by k_is) (by k_is) (by k_is)
      have h50 := LK.dfn (x := "_law_is_number") (st := LK.s__law_is_number) KX G (by k_is) (by k_is) (by k_is) (by k_is)
      have h51 := LK.dfn (x := "_law_dealt") (st := LK.s__law_dealt) KX G (by k_is) (by k_is) (by k_is) (by k_is)
      have h52 := LK.dfn (x := "_law_first") (st := LK.s__law_first) KX G (by k_is) (by k_is) (by k_is) (by k_is)
      have h53 := LK.dfn (x := "_law_windows") (st := LK.s__law_windows) KX G (by k_is) (by k_is) (by k_is) (by k_is)
      have h54 := LK.dfn (x := "_law_made") (st := LK.s__law_made) KX G (by k_is) (by k_is) (by k_is) (by k_is)
      have h55 := LK.dfn (x := "_law_eight") (st := LK.s__law_eight) KX G (by k_is) (by k_is) (by k_is) (by k_is)
      have h56 := LK.dfn (x := "_law_due") (st := LK.s__law_due) KX G (by k_is) (by k_is) (by k_is) (by k_is)
      have h57 := LK.dfn (x := "_law_pairs") (st := LK.s__law_pairs) KX G (by k_is) (by k_is) (by k_is) (by k_is)
      have h58 := LK.dfn (x := "_law_do") (st := LK.s__law_do) KX G (by k_is) (by k_is) (by k_is) (by k_is)
      have h59 := LK.dfn (x := "_law_deed") (st := LK.s__law_deed) KX G (by k_is) (by k_is) (by k_is) (by k_is)
      have h60 := LK.dfn (x := "_law_behind") (st := LK.s__law_behind) KX G (by k_is) (by k_is) (by k_is) (by k_is)
      have h61 := LK.dfn (x := "_law_is_row") (st := LK.s__law_is_row) KX G (by k_is) (by k_is) (by k_is) (by k_is)
      have h62 := LK.dfn (x := "_law_kinds") (st := LK.s__law_kinds) KX G (by k_is) (by k_is) (by k_is) (by k_is)
      have h63 := LK.dfn (x := "_law_look") (st := LK.s__law_look) KX G (by k_is) (by k_is) (by k_is) (by k_is)
      have h64 := LK.dfn (x := "_law_ask") (st := LK.s__law_ask) KX G (by k_is) (by k_is) (by k_is) (by k_is)
      have h65 := LK.dfn (x := "_law_bad") (st := LK.s__law_bad) KX G (by k_is) (by k_is) (by k_is) (by k_is)
      have h66 := LK.dfn (x := "_law_refused") (st := LK.s__law_refused) KX G (by k_is) (by k_is) (by k_is) (by k_is)
      have h67 := LK.dfn (x := "law") (st := LK.s_law) KX G (by k_is) (by k_is) (by k_is) (by k_is)
      have c20 := LK.exf (n := "InvalidPaper") (q := "InvalidPaper.__init__") (st := L2.inClass (LK.topS 20) 0) KX G (by k_is) (by k_is) (by decide +kernel) (by k_is) (by k_is) (by k_is) (by k_is) (by k_is) (by k_is) (by k_is) (by k_is) (by k_is) (by k_is) (by k_is) (by k_is) (by k_is) (by k_is) (by k_is) (by first | rfl | k_is)
      have c21 := LK.exf (n := "NotUsable") (q := "NotUsable.__init__") (st := L2.inClass (LK.topS 21) 0) KX G (by k_is) (by k_is) (by decide +kernel) (by k_is) (by k_is) (by k_is) (by k_is) (by k_is) (by k_is) (by k_is) (by k_is) (by k_is) (by k_is) (by k_is) (by k_is) (by k_is) (by k_is) (by k_is) (by first | rfl | k_is)
      have g_isinstance := PySem.W.mg_none_of (n := "isinstance") KX G (by k_is)
      have g_int := PySem.W.mg_none_of (n := "int") KX G (by k_is)
      have g_bool := PySem.W.mg_none_of (n := "bool") KX G (by k_is)
      have g_tuple := PySem.W.mg_none_of (n := "tuple") KX G (by k_is)
      have g_str := PySem.W.mg_none_of (n := "str") KX G (by k_is)
      have g_list := PySem.W.mg_none_of (n := "list") KX G (by k_is)
      have g_len := PySem.W.mg_none_of (n := "len") KX G (by k_is)
      have g_all := PySem.W.mg_none_of (n := "all") KX G (by k_is)
      have g_any := PySem.W.mg_none_of (n := "any") KX G (by k_is)
      have g_set := PySem.W.mg_none_of (n := "set") KX G (by k_is)
      have g_sorted := PySem.W.mg_none_of (n := "sorted") KX G (by k_is)
      have g_range := PySem.W.mg_none_of (n := "range") KX G (by k_is)
      have g_enumerate := PySem.W.mg_none_of (n := "enumerate") KX G (by k_is)
      have g_sum := PySem.W.mg_none_of (n := "sum") KX G (by k_is)
      have g_min := PySem.W.mg_none_of (n := "min") KX G (by k_is)
      have g_max := PySem.W.mg_none_of (n := "max") KX G (by k_is)
      have g_abs := PySem.W.mg_none_of (n := "abs") KX G (by k_is)
      have g_reversed := PySem.W.mg_none_of (n := "reversed") KX G (by k_is)
      obtain ⟨fd, hb, hF⟩ := LK.all_mk (P := (PySem.Challenge.rw_listbylist_k01_whole_books_made_and_chan).prog) (w := w) hmg h1 h2 h3 h4 h5 h6 h7 h8 h10 h11 h12 h13 h14 h15 h22 h24 h25 h26 h27 h28 h29 h30 h32 h33 h34 h35 h37 h38 h39 h41 h42 h43 h44 h45 h46 h48 h49 h50 h51 h52 h53 h54 h55 h56 h57 h58 h59 h60 h61 h62 h63 h64 h65 h66 h67 c20 c21 g_isinstance g_int g_bool g_tuple g_str g_list g_len g_all g_any g_set g_sorted g_range g_enumerate g_sum g_min g_max g_abs g_reversed
      exact ⟨fd, hb, fun base _ _ => hF base⟩)
